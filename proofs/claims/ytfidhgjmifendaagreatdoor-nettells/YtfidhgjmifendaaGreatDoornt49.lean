import Derived.Test.YtfidhgjmifendaaGreatDoornt48
set_option maxHeartbeats 25600000
set_option maxRecDepth 100000
open Go.Value renaming pointer→Ie,agg→Ij,string→Y,slice→J,int→U,tuple→Ik,bool→Ia
open Go.IntKind renaming i64→O
open Go.Ending renaming returned→By
open Option renaming some→AI,none→be
open Go.Proofs.Tryz renaming prog→AS
open Go.Obj renaming cells→AT
open Go.RowKit.Below renaming refl→Ib
open Nat renaming le_refl→Ic,le_trans→Iq,zero_add→IC,reduceAdd→Jh
open Array renaming getElem?_eq_some_iff→BY
open List renaming length_set→IS,getD→Ip,length_map→No,getElem?_toArray→QE,mem_singleton→Jb
open Go renaming Ending→OT,heap_alloc_new→Ih,bodyPost_ret→IK,maxLen→Il
open Go.Lib renaming alloc_old→Om
open Go.Calls renaming mono→Ow
open Go.World renaming block_lt_of_cell?→Ix,drew→JC,cell?_setCell_far→JQ,cell?_drew→Qk
open Go.Proofs renaming enters_of→Jk
open Bool renaming and_eq_true→IM
namespace Go.Proofs.YtfidhgjmifendaaGreatDoor
open Go.RowKit
theorem Cl(g:Nat)(er:Int)(w:World)(he:er≠0) :
 Calls AS 84 #[Ie (AI ⟨g,0,be⟩),Ij #[Y ⟨#[]⟩,Y ⟨#[]⟩,J be 0 0,J be 0 0,J be 0 0,J be 0 0,U O 0,U O 0,U O 0,U O 0,U O 0,J be 0 0],U O er] w λe w'=>e=By (U O er)/\Below w.heap.size w w':=by
 have hd:(er==0)=false:=by simpa using he
 have HB:Hid (Below w.heap.size w (w.alloc (AT #[Y ⟨#[]⟩,Y ⟨#[]⟩,J be 0 0,J be 0 0,J be 0 0,J be 0 0,U O 0,U O 0,U O 0,U O 0,U O 0,J be 0 0] 42))):=(Ib _ _).alloc (Ic _) _;clear he;go_enter Tryz.func84,Tryz.ntmps84;go_wp2_with fail;go_ret;exact⟨rfl,HB.out⟩
structure rZ(pb g nb:Nat)(ul:Value)(v:Ev)(L:List Nx)(W:World):Prop where
 pb:W.heap[pb]?=AI (AT #[Ie (AI ⟨g,0,be⟩)] 70 (0,0))
 pl:W.heap[g]?=AI (AT (TJ (J (AI ⟨nb,0,be⟩) L.length L.length) ul v) 72 (0,0))
 nm:∀i,i<L.length->W.cell? ⟨nb,i*12,be⟩=AI (Y (L.getD i bX).n.name)
def NY(C:Nat)(w:World)(g nb j:Nat)(ul:Value)(ls:List Lt.fb)(v:Ev)(L:List Nx)(er:Int)(n':Nd)(w':World):Prop:=Below C w w'/\(er=0->∃y,y.n=n'/\cJ C w' nb (L.set j y)/\kA C w' g (J (AI ⟨nb,0,be⟩) L.length L.length) ul ls v)
def OkA(C:Nat)(A:Array Value)(er:Int)(n':Nd)(W:World):Prop:=(er≠0/\A=#[Y ⟨#[]⟩,Y ⟨#[]⟩,J be 0 0,J be 0 0,J be 0 0,J be 0 0,U O 0,U O 0,U O 0,U O 0,U O 0,J be 0 0])\/(er=0/\∃y:Nx,A=dt y.n y.vm y.vr y.vs y.vg y.vw/\y.n=n'/\cL C W y.n y.vm y.vr y.vs y.vg y.vw/\il y.n)
theorem cJ.names{C nb:Nat}{w:World}{L:List Nx}(h:cJ C w nb L):∀i,i<L.length->w.cell? ⟨nb,i*12,be⟩=AI (Y (L.getD i bX).n.name):=λi hi=>by
 have:=h.cell hi 0 (by omega);simpa[Nx.cs,dt] using this
theorem lZ(C g nb pb j kf:Nat)(F:Value->Array Value)(ul:Value)(ls:List Lt.fb)(v:Ev)(L:List Nx)(er:Int)(n':Nd)(w:World)(h:kA C w g (J (AI ⟨nb,0,be⟩) L.length L.length) ul ls v)(hN:cJ C w nb L)(hC:C<=w.heap.size)(hv:v.which=(j:Int))(hj:j<L.length)(he:(L.getD j bX).n.e=0)(hp:w.heap[pb]?=AI (AT #[Ie (AI ⟨g,0,be⟩)] 70 (0,0)))(cV:n'.name=(L.getD j bX).n.name)(uu:∀W vm vr vs vg vw,eS W (L.getD j bX).n vm vr vs vg vw->Calls AS kf (F (Ij (dt (L.getD j bX).n vm vr vs vg vw))) W λe w'=>dz (L.getD j bX).n.e er n' W e w') :
 rZ pb g nb ul v L w/\(Unit->Calls AS 85 #[Ie (AI ⟨g,0,be⟩)] w.drew λe w'=>e=By (Ij (dt (L.getD j bX).n (L.getD j bX).vm (L.getD j bX).vr (L.getD j bX).vs (L.getD j bX).vg (L.getD j bX).vw))/\rZ pb g nb ul v L w'/\Hid (Below w.heap.size w w')) /\
 (∀W,Below w.heap.size w W->Calls AS kf (F (Ij (dt (L.getD j bX).n (L.getD j bX).vm (L.getD j bX).vr (L.getD j bX).vs (L.getD j bX).vg (L.getD j bX).vw))) W λe w'=>∃A,e=By (Ik #[Ij A,U O er])/\rZ pb g nb ul v L w'/\Hid (Below w.heap.size w w'/\OkA C A er n' w')) /\
 (∀W A,Below w.heap.size w W/\OkA C A er n' W->Calls AS 84 #[Ie (AI ⟨g,0,be⟩),Ij A,U O er] W λe w'=>e=By (U O er)/\rZ pb g nb ul v L w'/\Hid (NY C w g nb j ul ls v L er n' w')):=by
 have Pu:=(BY.1 hp).1;have GZ:pb≠nb:=λe=>by
  have h1:=hN.row;rw[<- e,hp] at h1;simp at h1
 have hS:∀W,Below w.heap.size w W->rZ pb g nb ul v L W:=λW hW=>⟨(hW.block pb Pu).trans hp,(h.below hW).hg,(hN.below hW hC).names⟩;refine⟨hS w (Ib _ _),λ_=>?_,λW hW=>?_,?_⟩
 .refine(xI C g nb j L.length L.length L w.drew (hN.below (cD (Ib _ _)) hC) hj rfl (ae h.hg 0) (by rw[<- hv];exact ae h.hg 3)).mono ?_
  rintro e w' ⟨he,hb⟩;have aJ:=(cD (Ib w.heap.size w)).trans hb;exact⟨he,hS w' aJ,aJ⟩
 .refine(uu W _ _ _ _ _ (((hN.own _ (gi hj)).is (hN.ok _ (gi hj))).below hW)).mono ?_
  rintro e w' ⟨hb,⟨aM,_⟩|⟨_,aM,rfl⟩|⟨_,hz,um,ur,us,ug,uw,rfl,ho,hk⟩⟩
  .exact absurd he aM
  .have aJ:=hW.trans (hb.mono hW.size)
   exact⟨_,rfl,hS w' aJ,aJ,.inl ⟨aM,rfl⟩⟩
  .have aJ:=hW.trans (hb.mono hW.size)
   exact⟨_,by rw[hz],hS w' aJ,aJ,.inr ⟨hz,⟨n',um,ur,us,ug,uw⟩,rfl,rfl,ho.mono (Iq hC hW.size),hk⟩⟩
 .rintro W A ⟨hW,⟨aM,rfl⟩|⟨hz,y,rfl,hy,ho,hk⟩⟩
  .refine(Cl g er W aM).mono ?_
   rintro e w' ⟨rfl,hb⟩;have aJ:=hW.trans (hb.mono hW.size);exact⟨rfl,hS w' aJ,aJ.mono hC,λhz=>absurd hz aM⟩
  .subst hz
   refine(Ch C g nb j ul ls v L y W (h.below hW) (hN.below hW hC) (Iq hC hW.size) hv hj ho hk).mono ?_;rintro e w' ⟨rfl,hb,h1,h2,h3⟩;have hpW:=(hW.block pb Pu).trans hp;refine⟨rfl,⟨(h3 pb GZ (Nat.lt_of_lt_of_le Pu hW.size)).trans hpW,h2.hg,λi hi=>?_⟩,(hW.mono hC).trans hb,λ_=>⟨y,hy,h1,h2⟩⟩;have h4:=h1.names i (by rw[IS];exact hi);rw[h4];by_cases iY:i=j
   .subst iY
    rw[Ip,List.getElem?_set_self hi,Option.getD_some,hy,cV]
   .rw[Ip,List.getElem?_set_ne (Ne.symm iY),Ip]
theorem ye(C g nb pb j:Nat)(ul:Value)(ls:List Lt.fb)(v:Ev)(L:List Nx)(er:Int)(n':Nd)(w:World)(h:kA C w g (J (AI ⟨nb,0,be⟩) L.length L.length) ul ls v)(hN:cJ C w nb L)(hC:C<=w.heap.size)(hv:v.which=(j:Int))(hj:j<L.length)(he:(L.getD j bX).n.e=0)(hp:w.heap[pb]?=AI (AT #[Ie (AI ⟨g,0,be⟩)] 70 (0,0)))(cV:n'.name=(L.getD j bX).n.name)(uu:∀W vm vr vs vg vw,eS W (L.getD j bX).n vm vr vs vg vw->Calls AS 25 #[Ij (dt (L.getD j bX).n vm vr vs vg vw),Y v.name] W λe w'=>dz (L.getD j bX).n.e er n' W e w') :
 Calls AS 83 #[Ie (AI ⟨pb,0,be⟩)] w λe w'=>e=By (U O er)/\NY C w g nb j ul ls v L er n' w':=by
 obtain⟨eE,hW,hO,hB⟩:=lZ C g nb pb j 25 (λx=>#[x,Y v.name]) ul ls v L er n' w h hN hC hv hj he hp cV uu;have HW:Hid _:=hW;have HO:Hid _:=hO;have HB:Hid _:=hB;have HS:Hid (∀W,rZ pb g nb ul v L W->W.cell? ⟨pb,0,be⟩=AI (Ie (AI ⟨g,0,be⟩))/\W.cell? ⟨g,6,be⟩=AI (Y v.name)):=λW h=>⟨ae h.pb 0,ae h.pl 6⟩;have T9:=HS.out w eE;clear hW hO hB eE h hN hv he hp cV uu;generalize(L.getD j bX)=x at *;generalize Aw:v.name=a0 at *;clear Aw;generalize L.length=nl at *;go_enter Tryz.func83,Tryz.ntmps83;go_wp2_with fail;go_region_held3 (λW=>W.cell? ⟨pb,0,be⟩=AI (Ie (AI ⟨g,0,be⟩))/\W.cell? ⟨g,6,be⟩=AI (Y a0)) (first|assumption|go_keep) (first|(go_at_call 85;refine(HW.out ()).mono ?_;rintro e w1 ⟨rfl,fg,aV⟩;have Va:=HS.out _ fg)|(go_at_call 25;refine(HO.out _ aV.out).mono ?_;rintro e w2 ⟨A,rfl,gY,bp⟩;have Vb:=HS.out _ gY)|(go_at_call 84;refine(HB.out _ _ bp.out).mono ?_;rintro e w3 ⟨rfl,rP,HR⟩;have Vc:=HS.out _ rP))
 go_wp2_with fail;go_ret;exact⟨rfl,HR.out⟩
theorem zZ(C g nb pb j:Nat)(ul:Value)(ls:List Lt.fb)(v:Ev)(L:List Nx)(er:Int)(n':Nd)(w:World)(h:kA C w g (J (AI ⟨nb,0,be⟩) L.length L.length) ul ls v)(hN:cJ C w nb L)(hC:C<=w.heap.size)(hv:v.which=(j:Int))(hj:j<L.length)(he:(L.getD j bX).n.e=0)(hp:w.heap[pb]?=AI (AT #[Ie (AI ⟨g,0,be⟩)] 70 (0,0)))(cV:n'.name=(L.getD j bX).n.name)(uu:∀W vm vr vs vg vw,eS W (L.getD j bX).n vm vr vs vg vw->Calls AS 87 #[Ij (dt (L.getD j bX).n vm vr vs vg vw),Y v.name] W λe w'=>dz (L.getD j bX).n.e er n' W e w') :
 Calls AS 86 #[Ie (AI ⟨pb,0,be⟩)] w λe w'=>e=By (U O er)/\NY C w g nb j ul ls v L er n' w':=by
 obtain⟨eE,hW,hO,hB⟩:=lZ C g nb pb j 87 (λx=>#[x,Y v.name]) ul ls v L er n' w h hN hC hv hj he hp cV uu;have HW:Hid _:=hW;have HO:Hid _:=hO;have HB:Hid _:=hB;have HS:Hid (∀W,rZ pb g nb ul v L W->W.cell? ⟨pb,0,be⟩=AI (Ie (AI ⟨g,0,be⟩))/\W.cell? ⟨g,6,be⟩=AI (Y v.name)):=λW h=>⟨ae h.pb 0,ae h.pl 6⟩;have T9:=HS.out w eE;clear hW hO hB eE h hN hv he hp cV uu;generalize(L.getD j bX)=x at *;generalize Aw:v.name=a0 at *;clear Aw;generalize L.length=nl at *;go_enter Tryz.func86,Tryz.ntmps86;go_wp2_with fail;go_region_held3 (λW=>W.cell? ⟨pb,0,be⟩=AI (Ie (AI ⟨g,0,be⟩))/\W.cell? ⟨g,6,be⟩=AI (Y a0)) (first|assumption|go_keep) (first|(go_at_call 85;refine(HW.out ()).mono ?_;rintro e w1 ⟨rfl,fg,aV⟩;have Va:=HS.out _ fg)|(go_at_call 87;refine(HO.out _ aV.out).mono ?_;rintro e w2 ⟨A,rfl,gY,bp⟩;have Vb:=HS.out _ gY)|(go_at_call 84;refine(HB.out _ _ bp.out).mono ?_;rintro e w3 ⟨rfl,rP,HR⟩;have Vc:=HS.out _ rP))
 go_wp2_with fail;go_ret;exact⟨rfl,HR.out⟩
theorem yf(C g nb pb j:Nat)(ul:Value)(ls:List Lt.fb)(v:Ev)(L:List Nx)(er:Int)(n':Nd)(w:World)(h:kA C w g (J (AI ⟨nb,0,be⟩) L.length L.length) ul ls v)(hN:cJ C w nb L)(hC:C<=w.heap.size)(hv:v.which=(j:Int))(hj:j<L.length)(he:(L.getD j bX).n.e=0)(hp:w.heap[pb]?=AI (AT #[Ie (AI ⟨g,0,be⟩)] 70 (0,0)))(cV:n'.name=(L.getD j bX).n.name)(uu:∀W vm vr vs vg vw,eS W (L.getD j bX).n vm vr vs vg vw->Calls AS 89 #[Ij (dt (L.getD j bX).n vm vr vs vg vw)] W λe w'=>dz (L.getD j bX).n.e er n' W e w') :
 Calls AS 88 #[Ie (AI ⟨pb,0,be⟩)] w λe w'=>e=By (U O er)/\NY C w g nb j ul ls v L er n' w':=by
 obtain⟨eE,hW,hO,hB⟩:=lZ C g nb pb j 89 (λx=>#[x]) ul ls v L er n' w h hN hC hv hj he hp cV uu;have HW:Hid _:=hW;have HO:Hid _:=hO;have HB:Hid _:=hB;have HS:Hid (∀W,rZ pb g nb ul v L W->W.cell? ⟨pb,0,be⟩=AI (Ie (AI ⟨g,0,be⟩))):=λW h=>ae h.pb 0;have T9:=HS.out w eE;clear hW hO hB eE h hN hv he hp cV uu;generalize(L.getD j bX)=x at *;generalize L.length=nl at *;go_enter Tryz.func88,Tryz.ntmps88;go_wp2_with fail;go_region_held3 (λW=>W.cell? ⟨pb,0,be⟩=AI (Ie (AI ⟨g,0,be⟩))) (first|assumption|go_keep) (first|(go_at_call 85;refine(HW.out ()).mono ?_;rintro e w1 ⟨rfl,fg,aV⟩;have Va:=HS.out _ fg)|(go_at_call 89;refine(HO.out _ aV.out).mono ?_;rintro e w2 ⟨A,rfl,gY,bp⟩;have Vb:=HS.out _ gY)|(go_at_call 84;refine(HB.out _ _ bp.out).mono ?_;rintro e w3 ⟨rfl,rP,HR⟩;have Vc:=HS.out _ rP))
 go_wp2_with fail;go_ret;exact⟨rfl,HR.out⟩
theorem yh(C g nb pb j:Nat)(ul:Value)(ls:List Lt.fb)(v:Ev)(L:List Nx)(er:Int)(n':Nd)(w:World)(h:kA C w g (J (AI ⟨nb,0,be⟩) L.length L.length) ul ls v)(hN:cJ C w nb L)(hC:C<=w.heap.size)(hv:v.which=(j:Int))(hj:j<L.length)(he:(L.getD j bX).n.e=0)(hp:w.heap[pb]?=AI (AT #[Ie (AI ⟨g,0,be⟩)] 70 (0,0)))(cV:n'.name=(L.getD j bX).n.name)(k:Nat)(ho:v.other=(k:Int))(hk:k<L.length)(uu:∀W vm vr vs vg vw,eS W (L.getD j bX).n vm vr vs vg vw->Calls AS 91 #[Ij (dt (L.getD j bX).n vm vr vs vg vw),Y (L.getD k bX).n.name,Ij #[U O v.p.x,U O v.p.y,U O v.p.z,U O v.p.h,U O v.p.s],U O v.n] W λe w'=>dz (L.getD j bX).n.e er n' W e w') :
 Calls AS 90 #[Ie (AI ⟨pb,0,be⟩)] w λe w'=>e=By (U O er)/\NY C w g nb j ul ls v L er n' w':=by
 obtain⟨eE,hW,hO,hB⟩:=lZ C g nb pb j 91 (λx=>#[x,Y (L.getD k bX).n.name,Ij #[U O v.p.x,U O v.p.y,U O v.p.z,U O v.p.h,U O v.p.s],U O v.n]) ul ls v L er n' w h hN hC hv hj he hp cV uu;have HW:Hid _:=hW;have HO:Hid _:=hO;have HB:Hid _:=hB;have HS:Hid (∀W,rZ pb g nb ul v L W->W.cell? ⟨pb,0,be⟩=AI (Ie (AI ⟨g,0,be⟩))/\W.cell? ⟨g,0,be⟩=AI (J (AI ⟨nb,0,be⟩) L.length L.length)/\W.cell? ⟨g,4,be⟩=AI (U O (k:Int))/\W.cell? ⟨nb,k*12,be⟩=AI (Y (L.getD k bX).n.name)/\W.cell? ⟨g,5,be⟩=AI (U O v.n)/\W.cell? ⟨g,7,be⟩=AI (U O v.p.x)/\W.cell? ⟨g,8,be⟩=AI (U O v.p.y)/\W.cell? ⟨g,9,be⟩=AI (U O v.p.z)/\W.cell? ⟨g,10,be⟩=AI (U O v.p.h)/\W.cell? ⟨g,11,be⟩=AI (U O v.p.s)):=λW h=>⟨ae h.pb 0,ae h.pl 0,(by rw[<- ho];exact ae h.pl 4),h.nm k hk,ae h.pl 5,ae h.pl 7,ae h.pl 8,ae h.pl 9,ae h.pl 10,ae h.pl 11⟩;have uT:(0:Int)<=(k:Int):=by omega
 have jq:(k:Int)<(L.length:Int):=by omega
 have jz:((k:Int)).toNat=k:=by omega
 have T9:=HS.out w eE;clear hW hO hB eE h hN hv he hp cV uu;generalize(L.getD j bX)=x at *;generalize Aw:v.n=a0 at *;clear Aw;generalize Av:(L.getD k bX).n.name=a1 at *;clear Av;generalize PG:v.p.x=a2 at *;clear PG;generalize zd:v.p.y=a3 at *;clear zd;generalize hv4:v.p.z=a4 at *;clear hv4;generalize hv5:v.p.h=a5 at *;clear hv5;generalize GR:v.p.s=a6 at *;clear GR;generalize L.length=nl at *;go_enter Tryz.func90,Tryz.ntmps90;go_wp2_with fail;go_region_held3 (λW=>W.cell? ⟨pb,0,be⟩=AI (Ie (AI ⟨g,0,be⟩))/\W.cell? ⟨g,0,be⟩=AI (J (AI ⟨nb,0,be⟩) nl nl)/\W.cell? ⟨g,4,be⟩=AI (U O (k:Int))/\W.cell? ⟨nb,k*12,be⟩=AI (Y a1)/\W.cell? ⟨g,5,be⟩=AI (U O a0)/\W.cell? ⟨g,7,be⟩=AI (U O a2)/\W.cell? ⟨g,8,be⟩=AI (U O a3)/\W.cell? ⟨g,9,be⟩=AI (U O a4)/\W.cell? ⟨g,10,be⟩=AI (U O a5)/\W.cell? ⟨g,11,be⟩=AI (U O a6)) (first|assumption|go_keep) (first|(go_at_call 85;refine(HW.out ()).mono ?_;rintro e w1 ⟨rfl,fg,aV⟩;have Va:=HS.out _ fg)|(go_at_call 91;refine(HO.out _ aV.out).mono ?_;rintro e w2 ⟨A,rfl,gY,bp⟩;have Vb:=HS.out _ gY)|(go_at_call 84;refine(HB.out _ _ bp.out).mono ?_;rintro e w3 ⟨rfl,rP,HR⟩;have Vc:=HS.out _ rP))
 go_wp2_with fail;go_ret;exact⟨rfl,HR.out⟩
theorem yi(C g nb pb j:Nat)(ul:Value)(ls:List Lt.fb)(v:Ev)(L:List Nx)(er:Int)(n':Nd)(w:World)(h:kA C w g (J (AI ⟨nb,0,be⟩) L.length L.length) ul ls v)(hN:cJ C w nb L)(hC:C<=w.heap.size)(hv:v.which=(j:Int))(hj:j<L.length)(he:(L.getD j bX).n.e=0)(hp:w.heap[pb]?=AI (AT #[Ie (AI ⟨g,0,be⟩)] 70 (0,0)))(cV:n'.name=(L.getD j bX).n.name)(uu:∀W vm vr vs vg vw,eS W (L.getD j bX).n vm vr vs vg vw->Calls AS 93 #[Ij (dt (L.getD j bX).n vm vr vs vg vw),Ij #[Y v.s.node,Y v.s.bu,Y v.s.name,Y v.s.tag,U O v.s.addr,U O v.s.port,Ia v.s.aj,U O v.s.version,Ia v.s.gone]] W λe w'=>dz (L.getD j bX).n.e er n' W e w') :
 Calls AS 92 #[Ie (AI ⟨pb,0,be⟩)] w λe w'=>e=By (U O er)/\NY C w g nb j ul ls v L er n' w':=by
 obtain⟨eE,hW,hO,hB⟩:=lZ C g nb pb j 93 (λx=>#[x,Ij #[Y v.s.node,Y v.s.bu,Y v.s.name,Y v.s.tag,U O v.s.addr,U O v.s.port,Ia v.s.aj,U O v.s.version,Ia v.s.gone]]) ul ls v L er n' w h hN hC hv hj he hp cV uu;have HW:Hid _:=hW;have HO:Hid _:=hO;have HB:Hid _:=hB;have HS:Hid (∀W,rZ pb g nb ul v L W->W.cell? ⟨pb,0,be⟩=AI (Ie (AI ⟨g,0,be⟩))/\W.cell? ⟨g,12,be⟩=AI (Y v.s.node)/\W.cell? ⟨g,13,be⟩=AI (Y v.s.bu)/\W.cell? ⟨g,14,be⟩=AI (Y v.s.name)/\W.cell? ⟨g,15,be⟩=AI (Y v.s.tag)/\W.cell? ⟨g,16,be⟩=AI (U O v.s.addr)/\W.cell? ⟨g,17,be⟩=AI (U O v.s.port)/\W.cell? ⟨g,18,be⟩=AI (Ia v.s.aj)/\W.cell? ⟨g,19,be⟩=AI (U O v.s.version)/\W.cell? ⟨g,20,be⟩=AI (Ia v.s.gone)):=λW h=>⟨ae h.pb 0,ae h.pl 12,ae h.pl 13,ae h.pl 14,ae h.pl 15,ae h.pl 16,ae h.pl 17,ae h.pl 18,ae h.pl 19,ae h.pl 20⟩;have T9:=HS.out w eE;clear hW hO hB eE h hN hv he hp cV uu;generalize(L.getD j bX)=x at *;generalize Aw:v.s.node=a0 at *;clear Aw;generalize Av:v.s.bu=a1 at *;clear Av;generalize PG:v.s.name=a2 at *;clear PG;generalize zd:v.s.tag=a3 at *;clear zd;generalize hv4:v.s.addr=a4 at *;clear hv4;generalize hv5:v.s.port=a5 at *;clear hv5;generalize GR:v.s.aj=a6 at *;clear GR;generalize hv7:v.s.version=a7 at *;clear hv7;generalize hv8:v.s.gone=a8 at *;clear hv8;generalize L.length=nl at *;go_enter Tryz.func92,Tryz.ntmps92;go_wp2_with fail;go_region_held3 (λW=>W.cell? ⟨pb,0,be⟩=AI (Ie (AI ⟨g,0,be⟩))/\W.cell? ⟨g,12,be⟩=AI (Y a0)/\W.cell? ⟨g,13,be⟩=AI (Y a1)/\W.cell? ⟨g,14,be⟩=AI (Y a2)/\W.cell? ⟨g,15,be⟩=AI (Y a3)/\W.cell? ⟨g,16,be⟩=AI (U O a4)/\W.cell? ⟨g,17,be⟩=AI (U O a5)/\W.cell? ⟨g,18,be⟩=AI (Ia a6)/\W.cell? ⟨g,19,be⟩=AI (U O a7)/\W.cell? ⟨g,20,be⟩=AI (Ia a8)) (first|assumption|go_keep) (first|(go_at_call 85;refine(HW.out ()).mono ?_;rintro e w1 ⟨rfl,fg,aV⟩;have Va:=HS.out _ fg)|(go_at_call 93;refine(HO.out _ aV.out).mono ?_;rintro e w2 ⟨A,rfl,gY,bp⟩;have Vb:=HS.out _ gY)|(go_at_call 84;refine(HB.out _ _ bp.out).mono ?_;rintro e w3 ⟨rfl,rP,HR⟩;have Vc:=HS.out _ rP))
 go_wp2_with fail;go_ret;exact⟨rfl,HR.out⟩
theorem Aa(C g nb pb j:Nat)(ul:Value)(ls:List Lt.fb)(v:Ev)(L:List Nx)(er:Int)(n':Nd)(w:World)(h:kA C w g (J (AI ⟨nb,0,be⟩) L.length L.length) ul ls v)(hN:cJ C w nb L)(hC:C<=w.heap.size)(hv:v.which=(j:Int))(hj:j<L.length)(he:(L.getD j bX).n.e=0)(hp:w.heap[pb]?=AI (AT #[Ie (AI ⟨g,0,be⟩)] 70 (0,0)))(cV:n'.name=(L.getD j bX).n.name)(uu:∀W vm vr vs vg vw,eS W (L.getD j bX).n vm vr vs vg vw->Calls AS 95 #[Ij (dt (L.getD j bX).n vm vr vs vg vw),Y v.name] W λe w'=>dz (L.getD j bX).n.e er n' W e w') :
 Calls AS 94 #[Ie (AI ⟨pb,0,be⟩)] w λe w'=>e=By (U O er)/\NY C w g nb j ul ls v L er n' w':=by
 obtain⟨eE,hW,hO,hB⟩:=lZ C g nb pb j 95 (λx=>#[x,Y v.name]) ul ls v L er n' w h hN hC hv hj he hp cV uu;have HW:Hid _:=hW;have HO:Hid _:=hO;have HB:Hid _:=hB;have HS:Hid (∀W,rZ pb g nb ul v L W->W.cell? ⟨pb,0,be⟩=AI (Ie (AI ⟨g,0,be⟩))/\W.cell? ⟨g,6,be⟩=AI (Y v.name)):=λW h=>⟨ae h.pb 0,ae h.pl 6⟩;have T9:=HS.out w eE;clear hW hO hB eE h hN hv he hp cV uu;generalize(L.getD j bX)=x at *;generalize Aw:v.name=a0 at *;clear Aw;generalize L.length=nl at *;go_enter Tryz.func94,Tryz.ntmps94;go_wp2_with fail;go_region_held3 (λW=>W.cell? ⟨pb,0,be⟩=AI (Ie (AI ⟨g,0,be⟩))/\W.cell? ⟨g,6,be⟩=AI (Y a0)) (first|assumption|go_keep) (first|(go_at_call 85;refine(HW.out ()).mono ?_;rintro e w1 ⟨rfl,fg,aV⟩;have Va:=HS.out _ fg)|(go_at_call 95;refine(HO.out _ aV.out).mono ?_;rintro e w2 ⟨A,rfl,gY,bp⟩;have Vb:=HS.out _ gY)|(go_at_call 84;refine(HB.out _ _ bp.out).mono ?_;rintro e w3 ⟨rfl,rP,HR⟩;have Vc:=HS.out _ rP))
 go_wp2_with fail;go_ret;exact⟨rfl,HR.out⟩
theorem Ab(C g nb pb j:Nat)(ul:Value)(ls:List Lt.fb)(v:Ev)(L:List Nx)(er:Int)(n':Nd)(w:World)(h:kA C w g (J (AI ⟨nb,0,be⟩) L.length L.length) ul ls v)(hN:cJ C w nb L)(hC:C<=w.heap.size)(hv:v.which=(j:Int))(hj:j<L.length)(he:(L.getD j bX).n.e=0)(hp:w.heap[pb]?=AI (AT #[Ie (AI ⟨g,0,be⟩)] 70 (0,0)))(cV:n'.name=(L.getD j bX).n.name)(uu:∀W vm vr vs vg vw,eS W (L.getD j bX).n vm vr vs vg vw->Calls AS 97 #[Ij (dt (L.getD j bX).n vm vr vs vg vw),U O v.n] W λe w'=>dz (L.getD j bX).n.e er n' W e w') :
 Calls AS 96 #[Ie (AI ⟨pb,0,be⟩)] w λe w'=>e=By (U O er)/\NY C w g nb j ul ls v L er n' w':=by
 obtain⟨eE,hW,hO,hB⟩:=lZ C g nb pb j 97 (λx=>#[x,U O v.n]) ul ls v L er n' w h hN hC hv hj he hp cV uu;have HW:Hid _:=hW;have HO:Hid _:=hO;have HB:Hid _:=hB;have HS:Hid (∀W,rZ pb g nb ul v L W->W.cell? ⟨pb,0,be⟩=AI (Ie (AI ⟨g,0,be⟩))/\W.cell? ⟨g,5,be⟩=AI (U O v.n)):=λW h=>⟨ae h.pb 0,ae h.pl 5⟩;have T9:=HS.out w eE;clear hW hO hB eE h hN hv he hp cV uu;generalize(L.getD j bX)=x at *;generalize Aw:v.n=a0 at *;clear Aw;generalize L.length=nl at *;go_enter Tryz.func96,Tryz.ntmps96;go_wp2_with fail;go_region_held3 (λW=>W.cell? ⟨pb,0,be⟩=AI (Ie (AI ⟨g,0,be⟩))/\W.cell? ⟨g,5,be⟩=AI (U O a0)) (first|assumption|go_keep) (first|(go_at_call 85;refine(HW.out ()).mono ?_;rintro e w1 ⟨rfl,fg,aV⟩;have Va:=HS.out _ fg)|(go_at_call 97;refine(HO.out _ aV.out).mono ?_;rintro e w2 ⟨A,rfl,gY,bp⟩;have Vb:=HS.out _ gY)|(go_at_call 84;refine(HB.out _ _ bp.out).mono ?_;rintro e w3 ⟨rfl,rP,HR⟩;have Vc:=HS.out _ rP))
 go_wp2_with fail;go_ret;exact⟨rfl,HR.out⟩
def iG(C:Nat)(w':World)(g nb:Nat)(L:List Nx)(v:Ev)(Q:Prop)(R:Nt->Prop)(er:Int):Prop:=(er≠0->Q)/\(er=0->∃t',R t'/\∃a k c L',L'.length=L.length/\L'.map (·.n)=t'.ns/\cJ C w' nb L'/\kA C w' g (J (AI ⟨nb,0,be⟩) L.length L.length) (J a k c) t'.ls v)
theorem iG.of{C:Nat}{w':World}{g nb:Nat}{L:List Nx}{v:Ev}{R:Nt->Prop}{er:Int}(h:er=0->∃t',R t'/\∃a k c L',L'.length=L.length/\L'.map (·.n)=t'.ns/\cJ C w' nb L'/\kA C w' g (J (AI ⟨nb,0,be⟩) L.length L.length) (J a k c) t'.ls v):iG C w' g nb L v True R er:=⟨λ_=>trivial,h⟩
def qY(w:World)(Q:Prop)(R:Nt->Prop)(e:OT)(w':World):Prop:=Below w.heap.size w w'/\((∃er,er≠0/\Q/\e=By (Ik #[Ij #[J be 0 0,J be 0 0],U O er]))\/∃t' a k c b l d,R t'/\e=By (Ik #[Ij #[J a k c,J b l d],U O 0])/\fF w.heap.size w' t' (J a k c) (J b l d))
theorem ud(t:Nt)(Q:Prop)(R:Nt->Prop)(vn vl:Value)(v:Ev)(w:World)(hV:Rv w.heap.size w)(h:gh w t vn vl)(hs:t.Dk)(he:t.e=0)(hP:∀W C g nb ul L,Below w.heap.size w W->w.heap.size<=C->C<=W.heap.size->cJ C W nb L->L.map (·.n)=t.ns->kA C W g (J (AI ⟨nb,0,be⟩) L.length L.length) ul t.ls v->Calls AS 33 #[Ie (AI ⟨g,0,be⟩)] W λe w'=>∃er,e=By (U O er)/\Below C W w'/\Hid (iG C w' g nb L v Q R er)) :
 Calls AS 19 #[Ij #[vn,vl],Ij (Cc v)] w (qY w Q R):=by
 have nN:Hid (∀W,Below w.heap.size w W->Calls AS 11 #[Ij #[vn,vl]] W λe w'=>e=By (U O 0)/\Below W.heap.size W w'):=λW hW=>by
  have hc:=pT t vn vl W (hV.after hW) (h.below hW) hs (Nt.aed he);rw[he] at hc;exact hc
 have hz:=Nt.aU he;have X9:=h.ns.ok;have Ey:Hid (∀W,Below w.heap.size w W->Calls AS 32 #[Ij #[vn,vl]] W λe w'=>∃nb n a l c,e=By (Ij #[J (AI ⟨nb,0,be⟩) n n,J a l c])/\Below W.heap.size W w'/\Hid (∃L,n=L.length/\L.map (·.n)=t.ns/\cJ W.heap.size w' nb L/\Lt.Own W.heap.size w' (J a l c) t.ls)):=λW hW=>by
  refine(tO t vn vl W (h.below hW) hz.1 hz.2.1 (λn hn=>Nd.P0 (hz.2.2.1 n hn))).mono ?_;rintro e w' ⟨un,a,l,c,L,rfl,ho,hb⟩;have SR:=ho.un;subst SR;have hLn:t.ns.length=L.length:=by rw[<- ho.ns,No]
  exact⟨_,_,_,_,_,rfl,hb,L,hLn,ho.ns,⟨by omega,ho.row,λx hx=>(ho.own x hx).mono (by omega),λx hx=>X9 _ (by rw[<- ho.ns];exact List.mem_map_of_mem hx)⟩,Lt.Own.mono ho.ls (by omega)⟩
 have HP:Hid _:=hP;obtain⟨⟨pn,cn,EN,_⟩,⟨pl,cl,lj,_,_⟩⟩:=h;subst EN lj;clear hP hV hs hz X9 he;generalize t.ns.length=n at *;generalize t.ls.length=m at *;obtain⟨k0,k1,k2,k3,nm,⟨p0,p1,p2,p3,p4⟩,⟨s0,s1,s2,s3,s4,s5,s6,s7,s8⟩⟩:=v;simp only[Cc];obtain⟨W0,bJ⟩:∃W0,W0=((w.alloc (AT #[J pn n cn,J pl m cl] 27)).alloc (AT #[U O k0,U O k1,U O k2,U O k3,Y nm,U O p0,U O p1,U O p2,U O p3,U O p4,Y s0,Y s1,Y s2,Y s3,U O s4,U O s5,Ia s6,U O s7,Ia s8] 59)).alloc (AT #[J be 0 0,J be 0 0] 27):=⟨_,rfl⟩;have bM:Below w.heap.size w W0:=by rw[bJ];exact(((Ib _ _).alloc (Ic _) _).alloc (by simp) _).alloc (by simp;omega) _
 have eE:W0.heap.size=w.heap.size+3:=by rw[bJ];simp
 have yV:W0.heap[w.heap.size]?=AI (AT #[J pn n cn,J pl m cl] 27 (0,0)):=by rw[bJ];exact((Om _ _ _ (by simp;omega)).trans (Om _ _ _ (by simp))).trans (Ih w _)
 have PW:W0.heap[w.heap.size+1]?=AI (AT #[U O k0,U O k1,U O k2,U O k3,Y nm,U O p0,U O p1,U O p2,U O p3,U O p4,Y s0,Y s1,Y s2,Y s3,U O s4,U O s5,Ia s6,U O s7,Ia s8] 59 (0,0)):=by
  rw[bJ];have:=Ih (w.alloc (AT #[J pn n cn,J pl m cl] 27)) (AT #[U O k0,U O k1,U O k2,U O k3,Y nm,U O p0,U O p1,U O p2,U O p3,U O p4,Y s0,Y s1,Y s2,Y s3,U O s4,U O s5,Ia s6,U O s7,Ia s8] 59);refine(Om _ _ _ (by simp)).trans ?_;simpa using this
 have T8:W0.heap[w.heap.size+2]?=AI (AT #[J be 0 0,J be 0 0] 27 (0,0)):=by
  rw[bJ];have:=Ih ((w.alloc (AT #[J pn n cn,J pl m cl] 27)).alloc (AT #[U O k0,U O k1,U O k2,U O k3,Y nm,U O p0,U O p1,U O p2,U O p3,U O p4,Y s0,Y s1,Y s2,Y s3,U O s4,U O s5,Ia s6,U O s7,Ia s8] 59)) (AT #[J be 0 0,J be 0 0] 27);simpa using this
 have da:Hid _:=bM;have HX:Hid (∀W,Below W0.heap.size W0 W->W.heap[w.heap.size]?=AI (AT #[J pn n cn,J pl m cl] 27 (0,0))/\W.heap[w.heap.size+1]?=AI (AT #[U O k0,U O k1,U O k2,U O k3,Y nm,U O p0,U O p1,U O p2,U O p3,U O p4,Y s0,Y s1,Y s2,Y s3,U O s4,U O s5,Ia s6,U O s7,Ia s8] 59 (0,0))/\W.heap[w.heap.size+2]?=AI (AT #[J be 0 0,J be 0 0] 27 (0,0))):=λW hW=>⟨(hW.block _ (by omega)).trans yV,(hW.block _ (by omega)).trans PW,(hW.block _ (by omega)).trans T8⟩;have H8:Hid (∀W:World,W.heap[w.heap.size]?=AI (AT #[J pn n cn,J pl m cl] 27 (0,0))->W.heap[w.heap.size+1]?=AI (AT #[U O k0,U O k1,U O k2,U O k3,Y nm,U O p0,U O p1,U O p2,U O p3,U O p4,Y s0,Y s1,Y s2,Y s3,U O s4,U O s5,Ia s6,U O s7,Ia s8] 59 (0,0))->W.cell? ⟨w.heap.size,0,be⟩=AI (J pn n cn)/\W.cell? ⟨w.heap.size,1,be⟩=AI (J pl m cl)/\W.cell? ⟨w.heap.size+1,0,be⟩=AI (U O k0)/\W.cell? ⟨w.heap.size+1,1,be⟩=AI (U O k1)/\W.cell? ⟨w.heap.size+1,2,be⟩=AI (U O k2)/\W.cell? ⟨w.heap.size+1,3,be⟩=AI (U O k3)/\W.cell? ⟨w.heap.size+1,4,be⟩=AI (Y nm)/\W.cell? ⟨w.heap.size+1,5,be⟩=AI (U O p0)/\W.cell? ⟨w.heap.size+1,6,be⟩=AI (U O p1)/\W.cell? ⟨w.heap.size+1,7,be⟩=AI (U O p2)/\W.cell? ⟨w.heap.size+1,8,be⟩=AI (U O p3)/\W.cell? ⟨w.heap.size+1,9,be⟩=AI (U O p4)/\W.cell? ⟨w.heap.size+1,10,be⟩=AI (Y s0)/\W.cell? ⟨w.heap.size+1,11,be⟩=AI (Y s1)/\W.cell? ⟨w.heap.size+1,12,be⟩=AI (Y s2)/\W.cell? ⟨w.heap.size+1,13,be⟩=AI (Y s3)/\W.cell? ⟨w.heap.size+1,14,be⟩=AI (U O s4)/\W.cell? ⟨w.heap.size+1,15,be⟩=AI (U O s5)/\W.cell? ⟨w.heap.size+1,16,be⟩=AI (Ia s6)/\W.cell? ⟨w.heap.size+1,17,be⟩=AI (U O s7)/\W.cell? ⟨w.heap.size+1,18,be⟩=AI (Ia s8)):=λW h1 h2=>⟨ae h1 0,ae h1 1,ae h2 0,ae h2 1,ae h2 2,ae h2 3,ae h2 4,ae h2 5,ae h2 6,ae h2 7,ae h2 8,ae h2 9,ae h2 10,ae h2 11,ae h2 12,ae h2 13,ae h2 14,ae h2 15,ae h2 16,ae h2 17,ae h2 18⟩;have n0:=ae yV 0;have n1:=ae yV 1;have rN:Hid _:=eE;clear bM eE yV PW T8;go_enter Tryz.func19,Tryz.ntmps19;go_upto_region 1 with fail
 rw[<- bJ];clear bJ;go_wp2_with fail;refine(nN.out W0 da.out).mono ?_;rintro e w1 ⟨rfl,aB⟩;have Cm:Hid _:=aB;have aV:Hid _:=da.out.trans (aB.mono da.out.size);clear aB n0 n1 nN;go_wp2_with fail;refine wp_region_held_drew (S:=λW=>W.heap[w.heap.size]?=AI (AT #[J pn n cn,J pl m cl] 27 (0,0))/\W.heap[w.heap.size+1]?=AI (AT #[U O k0,U O k1,U O k2,U O k3,Y nm,U O p0,U O p1,U O p2,U O p3,U O p4,Y s0,Y s1,Y s2,Y s3,U O s4,U O s5,Ia s6,U O s7,Ia s8] 59 (0,0))) (by kernel_rfl) ⟨(HX.out w1 Cm.out).1,(HX.out w1 Cm.out).2.1⟩ (λbQ=>?_);refine wpAnyH_take (i:=0) (v:=Ij #[J pn n cn,J pl m cl]) rfl (by kernel_rfl) (by kernel_rfl) (by kernel_rfl) (λ_ _ _ h=>h) (Or.inl ⟨by rfl,?hy⟩) (by assumption) ?_
 case hy=>
  intro W LD;have i0:=ae LD.1 0;have i1:=ae LD.1 1;clear LD bQ;go_simp;try with_reducible rfl
 refine bZ 2 (v:=Ij #[U O k0,U O k1,U O k2,U O k3,Y nm,U O p0,U O p1,U O p2,U O p3,U O p4,Y s0,Y s1,Y s2,Y s3,U O s4,U O s5,Ia s6,U O s7,Ia s8]) ?_ (hy:=Or.inl ⟨by rfl,λW LD=>nT 59 (.tmp 3) rfl (w.heap.size+1) rfl 59 #[U O k0,U O k1,U O k2,U O k3,Y nm,U O p0,U O p1,U O p2,U O p3,U O p4,Y s0,Y s1,Y s2,Y s3,U O s4,U O s5,Ia s6,U O s7,Ia s8] (0,0) _ LD.2 Tryz.underlying59 rfl (by kernel_rfl)⟩);refine cf 1 (λK hK=>?_);have HK:Hid _:=hK;clear hK;go_simp;refine Ow (Ey.out _ (cD aV.out)) ?_;rintro e w2 ⟨nb,nn,a,l,c,rfl,aJ,qW⟩;have vo:Hid _:=(cD Cm.out).trans (aJ.mono Cm.out.size);clear aJ;refine HK.out _ _ ⟨(HX.out w2 vo.out).1,(HX.out w2 vo.out).2.1⟩ (λbQ=>?_);clear HK K;refine bZ 3 (v:=Ij #[J (AI ⟨nb,0,be⟩) nn nn,J a l c,U O k0,U O k1,U O k2,U O k3,Y nm,U O p0,U O p1,U O p2,U O p3,U O p4,Y s0,Y s1,Y s2,Y s3,U O s4,U O s5,Ia s6,U O s7,Ia s8]) ?_;refine cf 4 (λK hK=>?_);have HK:Hid _:=hK;clear hK;go_simp;refine HK.out _ _ ⟨((Ib w2.heap.size w2).alloc (Ic _) _).block _ (BY.1 (HX.out w2 vo.out).1).1 |>.trans (HX.out w2 vo.out).1,((Ib w2.heap.size w2).alloc (Ic _) _).block _ (BY.1 (HX.out w2 vo.out).2.1).1 |>.trans (HX.out w2 vo.out).2.1⟩ (λbQ=>?_);clear HK K;refine bZ 5 (v:=Ie (AI ⟨w2.heap.size,0,be⟩)) ?_;refine wpAnyH_done (by kernel_rfl) ?_ _;clear bQ;go_wp2_with fail;obtain⟨L,hnn,qe,hN,hL⟩:=qW.out;subst hnn;obtain⟨W3,ea⟩:∃W3,W3=w2.alloc (AT #[J (AI ⟨nb,0,be⟩) L.length L.length,J a l c,U O k0,U O k1,U O k2,U O k3,Y nm,U O p0,U O p1,U O p2,U O p3,U O p4,Y s0,Y s1,Y s2,Y s3,U O s4,U O s5,Ia s6,U O s7,Ia s8] 72):=⟨_,rfl⟩;have bV:Below w2.heap.size w2 W3:=by rw[ea];exact(Ib _ _).alloc (Ic _) _
 have G7:=Cm.out.size;have hC3:=vo.out.size;have Cn:Hid _:=vo.out.trans (bV.mono hC3);have ji:W3.heap[w2.heap.size]?=AI (AT #[J (AI ⟨nb,0,be⟩) L.length L.length,J a l c,U O k0,U O k1,U O k2,U O k3,Y nm,U O p0,U O p1,U O p2,U O p3,U O p4,Y s0,Y s1,Y s2,Y s3,U O s4,U O s5,Ia s6,U O s7,Ia s8] 72 (0,0)):=by rw[ea];exact Ih w2 _
 have TE:=HP.out W3 W0.heap.size w2.heap.size nb (J a l c) L (da.out.trans (Cn.out.mono da.out.size)) da.out.size Cn.out.size ((hN.below bV (by have:=hN.le;have:=(BY.1 hN.row).1;omega)).mono G7) qe ⟨ji,hC3,(Lt.Own.mono hL G7).below bV⟩;clear bV ji hN hL qe qW HP G7;rw[<- ea];clear ea;refine TE.mono ?_;rintro e w4 ⟨er,rfl,eO,HPI⟩;have FC:=(eO.block _ (by have:=rN.out;omega)).trans (HX.out W3 Cn.out).2.2;have g0:=ae FC 0;have g1:=ae FC 1;have f0:w4.frozen? ⟨w.heap.size+2,0,be⟩=false:=an FC 0;have f1:w4.frozen? ⟨w.heap.size+2,1,be⟩=false:=an FC 1;by_cases aM:er=0
 .subst aM
  obtain⟨t4,hR4,a4,k4,c4,L4,P5,P6,hN4,hP4⟩:=HPI.out.2 rfl;clear g0 g1 f0 f1;have x0:w4.cell? ⟨w2.heap.size,0,be⟩=AI (J (AI ⟨nb,0,be⟩) L.length L.length):=ae hP4.hg 0;have x1:w4.cell? ⟨w2.heap.size,1,be⟩=AI (J a4 k4 c4):=ae hP4.hg 1;obtain⟨W5,iZ⟩:∃W5,W5=aC (w.heap.size+2) [J (AI ⟨nb,0,be⟩) L.length L.length,J a4 k4 c4] 0 w4:=⟨_,rfl⟩;have Gs:W5.heap[w.heap.size+2]?=AI (AT #[J (AI ⟨nb,0,be⟩) L.length L.length,J a4 k4 c4] 27 (0,0)):=by rw[iZ];exact bC [J (AI ⟨nb,0,be⟩) L.length L.length,J a4 k4 c4] [] [J be 0 0,J be 0 0] FC rfl
  have eo:∀q,q≠w.heap.size+2->W5.heap[q]?=w4.heap[q]?:=λq hq=>by rw[iZ];exact aX hq _ _ _
  have sj:∀b,W0.heap.size<=b->b<w4.heap.size->W5.heap[b]?=w4.heap[b]?:=λb hb _=>eo b (by have:=rN.out;omega);have gN:Hid (qY w Q R (By (Ik #[Ij #[J (AI ⟨nb,0,be⟩) L.length L.length,J a4 k4 c4],U O 0])) W5):=by
   refine⟨by rw[iZ];exact aQ (by omega) _ _ ((da.out.trans (Cn.out.mono da.out.size)).trans (eO.mono da.out.size)),.inr ⟨t4,_,_,_,_,_,_,hR4,rfl,nb,L4,by rw[P5],P6,(hN4.fa sj).mono da.out.size,Lt.Own.mono (ee sj hP4.ls) da.out.size⟩⟩
  have g0:w4.cell? ⟨w.heap.size+2,0,be⟩=AI (J be 0 0):=ae FC 0;have g1:w4.cell? ⟨w.heap.size+2,1,be⟩=AI (J be 0 0):=ae FC 1;have f0:=an FC 0;have f1:=an FC 1;have q0:=ae Gs 0;have q1:=ae Gs 1;clear FC Gs eo sj hP4 hN4 P6 hR4 eO P5 HPI TE HX H8 Cn vo Cm aV da rN hC3 Ey;generalize L.length=nl at *;go_wp2_with fail;simp only[aC,IC] at iZ;rw[<- iZ];clear iZ g0 g1 f0 f1 x0 x1;exact IK (v:=Ik #[Ij #[J (AI ⟨nb,0,be⟩) nl nl,J a4 k4 c4],U O 0]) (by simp[results,Tryz.results19,go_sem,q0,q1]) rfl gN.out
 .have hd:(er==0)=false:=by simpa using aM
  have hd2:(er !=0)=true:=by simpa using aM
  obtain⟨W5,iZ⟩:∃W5,W5=aC (w.heap.size+2) [J be 0 0,J be 0 0] 0 w4:=⟨_,rfl⟩;have Gs:W5.heap[w.heap.size+2]?=AI (AT #[J be 0 0,J be 0 0] 27 (0,0)):=by rw[iZ];exact bC [J be 0 0,J be 0 0] [] [J be 0 0,J be 0 0] FC rfl
  have gN:Hid (qY w Q R (By (Ik #[Ij #[J be 0 0,J be 0 0],U O er])) W5):=by
   exact⟨by rw[iZ];exact aQ (by omega) _ _ ((da.out.trans (Cn.out.mono da.out.size)).trans (eO.mono da.out.size)),.inl ⟨er,aM,HPI.out.1 aM,rfl⟩⟩
  have q0:=ae Gs 0;have q1:=ae Gs 1;clear FC Gs eO TE HX H8 Cn vo Cm aV da rN hC3 Ey HPI aM;generalize L.length=nl at *;go_wp2_with fail;simp only[aC,IC] at iZ;rw[<- iZ];clear iZ g0 g1 f0 f1;exact IK (v:=Ik #[Ij #[J be 0 0,J be 0 0],U O er]) (by simp[results,Tryz.results19,go_sem,q0,q1]) rfl gN.out
theorem FD(g:Nat)(a:Option Addr)(c:Nat)(to:Int)(tx:ByteArray)(w:World)(h:w.cell? ⟨g,1,be⟩=AI (J a 20 c)) :
 Calls AS 143 #[Ie (AI ⟨g,0,be⟩),Ij #[U O to,Y tx]] w λe w'=>e=By (U O 2)/\Below w.heap.size w w':=by
 have dn:=Ix w _ h;obtain⟨X,hX⟩:∃X,X=w.alloc (AT #[U O to,Y tx] 102):=⟨_,rfl⟩;have Mb:Below w.heap.size w X:=by rw[hX];exact(Ib _ _).alloc (Ic _) _
 have y1:=(Mb.cell (p:=⟨g,1,be⟩) dn).trans h;have HB:Hid _:=Mb;clear Mb h dn;go_enter Tryz.func143,Tryz.ntmps143;go_upto_region 1 with fail
 rw[<- hX];clear hX;go_wp2_with fail;go_ret;exact⟨rfl,HB.out⟩
def kH(C:Nat)(w:World)(g:Nat)(un:Value)(ls:List Lt.fb)(v:Ev)(l:Lt.fb)(w':World)(er:Int):Prop:=Mv C w w'/\(ls.length<20->er=0)/\(er=0->ls.length<20/\∃a k c,kA C w' g un (J a k c) (ls++[l]) v)
theorem kH.after{C:Nat}{w W w':World}{g:Nat}{un:Value}{ls:List Lt.fb}{v:Ev}{l:Lt.fb}{er:Int}(h:kH C W g un ls v l w' er)(hW:Below w.heap.size w W)(hC:C<=w.heap.size):kH C w g un ls v l w' er:=⟨(Mv.of hW hC).trans h.1,h.2⟩
theorem Ac(C g:Nat)(un ul:Value)(ls:List Lt.fb)(v:Ev)(to:Int)(tx:ByteArray)(w:World)(h:kA C w g un ul ls v)(hC:C<=w.heap.size)(h20:ls.length<=20) :
 Calls AS 143 #[Ie (AI ⟨g,0,be⟩),Ij #[U O to,Y tx]] w λe w'=>∃er,e=By (U O er)/\Hid (kH C w g un ls v ⟨to,tx⟩ w' er):=by
 by_cases hl:ls.length<20
 .refine(GN C g un ul ls v to tx w h hC hl).mono ?_
  rintro e w' ⟨rfl,hm,hp⟩;exact⟨0,rfl,hm,λ_=>rfl,λ_=>⟨hl,hp⟩⟩
 .have h2:ls.length=20:=by omega
  obtain⟨a,c,rfl⟩:=aK h.ls;have h1:w.cell? ⟨g,1,be⟩=AI (J a 20 c):=by rw[<- h2];exact ae h.hg 1
  refine(FD g a c to tx w h1).mono ?_;rintro e w' ⟨rfl,hb⟩;exact⟨2,rfl,Mv.of hb hC,λh=>absurd h hl,λh=>by cases h⟩
theorem Co(C g j:Nat)(un ul:Value)(ls:List Lt.fb)(v:Ev)(w:World)(h:kA C w g un ul ls v)(hC:C<=w.heap.size)(h20:ls.length<=20)(hv:v.which=(j:Int))(hj:j<ls.length) :
 Calls AS 82 #[Ie (AI ⟨g,0,be⟩)] w λe w'=>∃er,e=By (U O er)/\Hid (kH C w g un ls v (ls.getD j Lt.dm) w' er):=by
 obtain⟨lb,cu,LB⟩:∃lb cu,ul=J (AI ⟨lb,0,be⟩) ls.length cu:=by
  rcases h.ls.2 with⟨_,h0⟩|⟨b',c,cur,rfl,_⟩
  .omega
  .exact⟨b',c,rfl⟩
 subst LB;obtain⟨to,tx,hl⟩:∃to tx,ls.getD j Lt.dm=⟨to,tx⟩:=⟨_,_,rfl⟩;have Vd:∀i,i<2->w.cell? ⟨lb,j*2+i,be⟩=[U O to,Y tx][i]?:=λi hi=>by
  rw[World.ownsRow.cellAt h.ls _ (by have:=Lt.cP ls;omega)];have h2:=Lt.eb ls j hj i hi;rw[h2,hl];rfl
 have y1:w.cell? ⟨g,1,be⟩=AI (J (AI ⟨lb,0,be⟩) ls.length cu):=ae h.hg 1;have y3:w.cell? ⟨g,3,be⟩=AI (U O (j:Int)):=by rw[<- hv];exact ae h.hg 3
 have l0:w.cell? ⟨lb,j*2,be⟩=AI (U O to):=Vd 0 (by omega);have l1:w.cell? ⟨lb,j*2+1,be⟩=AI (Y tx):=Vd 1 (by omega);have HS:Hid (∀W,Below w.heap.size w W->Calls AS 143 #[Ie (AI ⟨g,0,be⟩),Ij #[U O to,Y tx]] W λe w'=>∃er,e=By (U O er)/\Hid (kH C w g un ls v ⟨to,tx⟩ w' er)):=λW hW=>(Ac C g un _ ls v to tx W (h.below hW) (Iq hC hW.size) h20).mono (λe w' hh=>by
  obtain⟨er,h1,h2⟩:=hh;exact⟨er,h1,h2.out.after hW hC⟩)
 have Tm:(j:Int)<(ls.length:Int):=by omega
 have ML:(0:Int)<=(j:Int):=by omega
 have hjt:((j:Int)).toNat=j:=by omega
 have Wb:Hid (Below w.heap.size w w.drew):=cD (Ib _ _);rw[hl];clear Vd h hv hj h20 hl;generalize hm:ls.length=m at *;clear hm;go_enter Tryz.func82,Tryz.ntmps82;go_wp2_with fail;go_region_with (first|(go_at_call 143;refine(HS.out _ Wb.out).mono ?_;rintro e w1 ⟨er,rfl,HR⟩))
 all_goals
  go_wp2_with fail;go_ret;exact⟨er,rfl,HR⟩
theorem wB(C g:Nat)(un ul:Value)(ls:List Lt.fb)(v:Ev)(p:Pk)(zm zs zg zw:Value)(w:World)(h:kA C w g un ul ls v)(hC:C<=w.heap.size)(h20:ls.length<=20)(hx:jY w p zm zs zg zw)(hWr:∀W zm zs zg zw,ma W.heap.size W->jY W p zm zs zg zw->Calls AS 199 #[Ij #[Y p.cU,Ia p.whole,zm,zs,zg,zw]] W λe w'=>e=By (Ik #[Y p.T,U O p.e])/\Below W.heap.size W w')(hT:ma w.heap.size w) :
 Calls AS 141 #[Ie (AI ⟨g,0,be⟩),Ij #[Y p.cU,Ia p.whole,zm,zs,zg,zw]] w λe w'=>∃er,e=By (U O er)/\Hid (kH C w g un ls v ⟨v.other,p.T⟩ w' er):=by
 have dn:=(BY.1 h.hg).1;have HW:Hid (∀W,Below w.heap.size w W->Calls AS 199 #[Ij #[Y p.cU,Ia p.whole,zm,zs,zg,zw]] W λe w'=>e=By (Ik #[Y p.T,U O p.e])/\Below W.heap.size W w'):=λW hW=>hWr W zm zs zg zw (λW2 bF=>hT W2 (hW.trans (bF.mono hW.size))) (hx.below hW);have HS:Hid (∀W,Below w.heap.size w W->Calls AS 143 #[Ie (AI ⟨g,0,be⟩),Ij #[U O v.other,Y p.T]] W λe w'=>∃er,e=By (U O er)/\Hid (kH C w g un ls v ⟨v.other,p.T⟩ w' er)):=λW hW=>(Ac C g un ul ls v v.other p.T W (h.below hW) (Iq hC hW.size) h20).mono (λe w' hh=>by
  obtain⟨er,h1,h2⟩:=hh;exact⟨er,h1,h2.out.after hW hC⟩)
 have HG:Hid (∀W,Below w.heap.size w W->W.cell? ⟨g,4,be⟩=AI (U O v.other)):=λW hW=>(hW.cell (p:=⟨g,4,be⟩) dn).trans (ae h.hg 4);obtain⟨⟨a2,c2,rfl,_⟩,⟨a3,c3,rfl,_⟩,⟨a4,c4,rfl,_⟩,⟨a5,c5,rfl,_⟩,_,_⟩:=hx;clear h hWr hT h20;generalize p.T=tx at *;generalize p.e=pe at *;obtain⟨W0,bJ,bM,-,dG⟩:=bW w #[Y p.cU,Ia p.whole,J a2 p.ms.length c2,J a3 p.sv.length c3,J a4 p.gw.length c4,J a5 p.wh.length c5] 53;obtain⟨q0,q1,q2,q3,q4,q5⟩:=fm dG;have da:Hid _:=bM;clear dG bM;generalize p.cU=pf at *;generalize p.whole=pw at *;generalize p.ms.length=k2 at *;generalize p.sv.length=k3 at *;generalize p.gw.length=k4 at *;generalize p.wh.length=k5 at *;go_enter Tryz.func141,Tryz.ntmps141;go_upto_region 1 with fail
 rw[<- bJ];clear bJ;go_wp2_with fail;refine(HW.out W0 da.out).mono ?_;rintro e w1 ⟨rfl,aB⟩;have aV:Hid _:=da.out.trans (aB.mono da.out.size);have y4:=HG.out w1 aV.out;clear aB HW HG;go_wp2_with fail;refine(HS.out w1 aV.out).mono ?_;rintro e w2 ⟨er,rfl,HR⟩;go_wp2_with fail;go_ret;exact⟨er,rfl,HR⟩
theorem rG(C g nb j:Nat)(ul:Value)(ls:List Lt.fb)(v:Ev)(L:List Nx)(w:World)(h:kA C w g (J (AI ⟨nb,0,be⟩) L.length L.length) ul ls v)(hN:cJ C w nb L)(hC:C<=w.heap.size)(h20:ls.length<=20)(hv:v.which=(j:Int))(hj:j<L.length)(he:(L.getD j bX).n.e=0)(hV:Rv w.heap.size w)(hWr:∀W zm zs zg zw,ma W.heap.size W->jY W (ep (L.getD j bX).n) zm zs zg zw->Calls AS 199 #[Ij #[Y (ep (L.getD j bX).n).cU,Ia (ep (L.getD j bX).n).whole,zm,zs,zg,zw]] W λe w'=>e=By (Ik #[Y (ep (L.getD j bX).n).T,U O (ep (L.getD j bX).n).e])/\Below W.heap.size W w') :
 Calls AS 79 #[Ie (AI ⟨g,0,be⟩)] w λe w'=>∃er,e=By (U O er)/\Hid (kH C w g (J (AI ⟨nb,0,be⟩) L.length L.length) ls v ⟨v.other,(ep (L.getD j bX).n).T⟩ w' er):=by
 have g0:=ae h.hg 0;have g3:w.cell? ⟨g,3,be⟩=AI (U O (j:Int)):=by rw[<- hv];exact ae h.hg 3
 have Tq:=xI C g nb j L.length L.length L w hN hj rfl g0 g3;have hI:=(hN.own _ (gi hj)).is (hN.ok _ (gi hj));have Ve:=hN.ok _ (gi hj);generalize L.getD j bX=x at *;have V8:Hid (∀W,Below w.heap.size w W->Calls AS 23 #[Ij (dt x.n x.vm x.vr x.vs x.vg x.vw)] W λe w'=>Below W.heap.size W w'/\∃a2 n2 c2 a3 n3 c3 a4 n4 c4 a5 n5 c5,e=By (Ik #[Ij #[Y x.n.name,Ia true,J a2 n2 c2,J a3 n3 c3,J a4 n4 c4,J a5 n5 c5],U O 0])/\Hid (jY w' (ep x.n) (J a2 n2 c2) (J a3 n3 c3) (J a4 n4 c4) (J a5 n5 c5))):=λW hW=>by
  refine(vV x.n x.vm x.vr x.vs x.vg x.vw W (hI.below hW)).mono ?_;rintro e w' ⟨hb,⟨aM,_⟩|⟨_,um,us,ug,uw,rfl,h1,h2,h3,h4⟩⟩
  .exact absurd he aM
  .obtain⟨a2,c2,e2⟩:=aK h1
   obtain⟨a3,c3,e3⟩:=aK h2;obtain⟨a4,c4,e4⟩:=aK h3;obtain⟨a5,c5,e5⟩:=aK h4;subst e2 e3 e4 e5;exact⟨hb,_,_,_,_,_,_,_,_,_,_,_,_,rfl,bD h1 Ve.ms,Sv.bD h2 Ve.sv,Gw.bD h3 Ve.gw,Wh.bD h4 Ve.wh,Ve.name,nD h1⟩
 have PI:Hid (∀W a2 n2 c2 a3 n3 c3 a4 n4 c4 a5 n5 c5,Below w.heap.size w W->jY W (ep x.n) (J a2 n2 c2) (J a3 n3 c3) (J a4 n4 c4) (J a5 n5 c5)->Calls AS 141 #[Ie (AI ⟨g,0,be⟩),Ij #[Y x.n.name,Ia true,J a2 n2 c2,J a3 n3 c3,J a4 n4 c4,J a5 n5 c5]] W λe w'=>∃er,e=By (U O er)/\Hid (kH C w g (J (AI ⟨nb,0,be⟩) L.length L.length) ls v ⟨v.other,(ep x.n).T⟩ w' er)):=λW a2 n2 c2 a3 n3 c3 a4 n4 c4 a5 n5 c5 hW hx=>
  (wB C g _ ul ls v (ep x.n) _ _ _ _ W (h.below hW) (Iq hC hW.size) h20 hx hWr (hV.after hW).Vu).mono (λe w' hh=>by
    obtain⟨er,h1,h2⟩:=hh;exact⟨er,h1,h2.out.after hW hC⟩)
 clear h hN hv hI Ve hV g0 g3 he hWr;generalize L.length=n at *;generalize(ep x.n).T=tx at *;obtain⟨⟨nm,ct,ms,rs,sv,gw,⟨px,py,pz,ph,pq⟩,wh⟩,vm,vr,vs,vg,vw⟩:=x;simp only[dt] at Tq V8 PI;go_enter Tryz.func79,Tryz.ntmps79;go_wp2_with fail;refine Tq.mono ?_;rintro e w1 ⟨rfl,aB⟩;have aV:Hid _:=aB;clear aB Tq;go_wp2_with fail;refine(V8.out w1 aV.out).mono ?_;rintro e w2 ⟨aJ,a2,n2,c2,a3,n3,c3,a4,n4,c4,a5,n5,c5,rfl,Wn⟩;have bp:Hid _:=aV.out.trans (aJ.mono aV.out.size);clear aJ aV V8;obtain⟨W3,ea⟩:∃W3,W3=w2.alloc (AT #[Y nm,Ia true,J a2 n2 c2,J a3 n3 c3,J a4 n4 c4,J a5 n5 c5] 53):=⟨_,rfl⟩;have bV:Below w2.heap.size w2 W3:=by rw[ea];exact(Ib _ _).alloc (Ic _) _
 have cj:Hid _:=bp.out.trans (bV.mono bp.out.size);have sK:Hid _:=Wn.out.below bV;have ji:W3.heap[w2.heap.size]?=AI (AT #[Y nm,Ia true,J a2 n2 c2,J a3 n3 c3,J a4 n4 c4,J a5 n5 c5] 53 (0,0)):=by rw[ea];exact Ih w2 _
 obtain⟨q0,q1,q2,q3,q4,q5⟩:=fm ji;clear bV ji bp Wn;go_wp2_with fail;rw[<- ea];refine(PI.out W3 _ _ _ _ _ _ _ _ _ _ _ _ cj.out sK.out).mono ?_;rintro e w4 ⟨er,rfl,HR⟩;clear ea q0 q1 q2 q3 q4 q5 cj sK PI;go_wp2_with fail;go_ret;exact⟨er,rfl,HR⟩
theorem K7(g nb n j:Nat)(R:Array Value)(v0 v1 v2 v3 v4 v5 v6 v7 v8 v9 v10 v11:Value)(x0 x1:ByteArray)(a2 a3 a4 a5 a11:Option Addr)(n2 k2 n3 k3 n4 k4 n5 k5 n11 k11:Nat)(x6 x7 x8 x9 x10:Int)(w:World)(F:World->List Value->Value->Prop)(Rs:Int->World->Prop)(hj:j<n)(g0:w.cell? ⟨g,0,be⟩=AI (J (AI ⟨nb,0,be⟩) n n))(g3:w.cell? ⟨g,3,be⟩=AI (U O (j:Int)))(cQ:w.heap[nb]?=AI (AT R 42 (0,0)))(LV:nb≠g)(c0:R[j*12]?=AI v0)(c1:R[j*12+1]?=AI v1)(c2:R[j*12+2]?=AI v2)(c3:R[j*12+3]?=AI v3)(c4:R[j*12+4]?=AI v4)(c5:R[j*12+5]?=AI v5)(c6:R[j*12+6]?=AI v6)(c7:R[j*12+7]?=AI v7)(c8:R[j*12+8]?=AI v8)(c9:R[j*12+9]?=AI v9)(c10:R[j*12+10]?=AI v10)(c11:R[j*12+11]?=AI v11)(hWH:Calls AS 85 #[Ie (AI ⟨g,0,be⟩)] w λe w'=>e=By (Ij #[Y x0,Y x1,J a2 n2 k2,J a3 n3 k3,J a4 n4 k4,J a5 n5 k5,U O x6,U O x7,U O x8,U O x9,U O x10,J a11 n11 k11])/\Below w.heap.size w w')(hTL:∀W,Below w.heap.size w W->Calls AS 18 #[Ij #[Y x0,Y x1,J a2 n2 k2,J a3 n3 k3,J a4 n4 k4,J a5 n5 k5,U O x6,U O x7,U O x8,U O x9,U O x10,J a11 n11 k11]] W λe w'=>Below W.heap.size W w'/\∃u0 u1 b2 m2 e2 b3 m3 e3 b4 m4 e4 b5 m5 e5 u6 u7 u8 u9 u10 b11 m11 e11 qa qk qc,e=By (Ik #[Ij #[Y u0,Y u1,J b2 m2 e2,J b3 m3 e3,J b4 m4 e4,J b5 m5 e5,U O u6,U O u7,U O u8,U O u9,U O u10,J b11 m11 e11],Ij #[Y x0,Ia false,J qa qk qc,J be 0 0,J be 0 0,J be 0 0],U O 0])/\Hid (F w' [Y u0,Y u1,J b2 m2 e2,J b3 m3 e3,J b4 m4 e4,J b5 m5 e5,U O u6,U O u7,U O u8,U O u9,U O u10,J b11 m11 e11] (J qa qk qc)))(hF:∀V V' xs q,F V xs q->Below V.heap.size V V'->F V' xs q)(hWR:∀V u0 u1 b2 m2 e2 b3 m3 e3 b4 m4 e4 b5 m5 e5 u6 u7 u8 u9 u10 b11 m11 e11 qa qk qc,Below w.heap.size w V->F V [Y u0,Y u1,J b2 m2 e2,J b3 m3 e3,J b4 m4 e4,J b5 m5 e5,U O u6,U O u7,U O u8,U O u9,U O u10,J b11 m11 e11] (J qa qk qc)->Calls AS 141 #[Ie (AI ⟨g,0,be⟩),Ij #[Y x0,Ia false,J qa qk qc,J be 0 0,J be 0 0,J be 0 0]] (JC (aC nb [Y u0,Y u1,J b2 m2 e2,J b3 m3 e3,J b4 m4 e4,J b5 m5 e5,U O u6,U O u7,U O u8,U O u9,U O u10,J b11 m11 e11] (j*12) V)) λe w'=>∃er,e=By (U O er)/\Rs er w') :
 Calls AS 78 #[Ie (AI ⟨g,0,be⟩)] w λe w'=>∃er,e=By (U O er)/\Rs er w':=by
 have dn:=Ix w _ g0;have aN:=(BY.1 cQ).1;have HTL:Hid _:=hTL;have HF:Hid _:=hF;have PI:Hid _:=hWR;have HX:Hid (∀V,Below w.heap.size w V->V.cell? ⟨g,0,be⟩=AI (J (AI ⟨nb,0,be⟩) n n)/\V.cell? ⟨g,3,be⟩=AI (U O (j:Int))/\V.heap[nb]?=AI (AT R 42 (0,0))):=λV hV=>⟨(hV.cell (p:=⟨g,0,be⟩) dn).trans g0,(hV.cell (p:=⟨g,3,be⟩) dn).trans g3,(hV.block nb aN).trans cQ⟩;have HC:Hid (∀V:World,V.heap[nb]?=AI (AT R 42 (0,0))->V.cell? ⟨nb,j*12,be⟩=AI v0/\V.cell? ⟨nb,j*12+1,be⟩=AI v1/\V.cell? ⟨nb,j*12+2,be⟩=AI v2/\V.cell? ⟨nb,j*12+3,be⟩=AI v3/\V.cell? ⟨nb,j*12+4,be⟩=AI v4/\V.cell? ⟨nb,j*12+5,be⟩=AI v5/\V.cell? ⟨nb,j*12+6,be⟩=AI v6/\V.cell? ⟨nb,j*12+7,be⟩=AI v7/\V.cell? ⟨nb,j*12+8,be⟩=AI v8/\V.cell? ⟨nb,j*12+9,be⟩=AI v9/\V.cell? ⟨nb,j*12+10,be⟩=AI v10/\V.cell? ⟨nb,j*12+11,be⟩=AI v11):=λV hV=>⟨(ae hV _).trans c0,(ae hV _).trans c1,(ae hV _).trans c2,(ae hV _).trans c3,(ae hV _).trans c4,(ae hV _).trans c5,(ae hV _).trans c6,(ae hV _).trans c7,(ae hV _).trans c8,(ae hV _).trans c9,(ae hV _).trans c10,(ae hV _).trans c11⟩;have HZ:Hid (∀V:World,V.heap[nb]?=AI (AT R 42 (0,0))->V.frozen? ⟨nb,j*12,be⟩=false/\V.frozen? ⟨nb,j*12+1,be⟩=false/\V.frozen? ⟨nb,j*12+2,be⟩=false/\V.frozen? ⟨nb,j*12+3,be⟩=false/\V.frozen? ⟨nb,j*12+4,be⟩=false/\V.frozen? ⟨nb,j*12+5,be⟩=false/\V.frozen? ⟨nb,j*12+6,be⟩=false/\V.frozen? ⟨nb,j*12+7,be⟩=false/\V.frozen? ⟨nb,j*12+8,be⟩=false/\V.frozen? ⟨nb,j*12+9,be⟩=false/\V.frozen? ⟨nb,j*12+10,be⟩=false/\V.frozen? ⟨nb,j*12+11,be⟩=false):=λV hV=>⟨an hV _,an hV _,an hV _,an hV _,an hV _,an hV _,an hV _,an hV _,an hV _,an hV _,an hV _,an hV _⟩;have LC:Hid _:=aN;have CB:(j:Int)<(n:Int):=by omega
 have ML:(0:Int)<=(j:Int):=by omega
 have hjt:((j:Int)).toNat=j:=by omega
 clear hTL hF hWR dn aN g0 g3 cQ hj c0 c1 c2 c3 c4 c5 c6 c7 c8 c9 c10 c11;go_enter Tryz.func78,Tryz.ntmps78;go_wp2_with fail;refine hWH.mono ?_;rintro e w1 ⟨rfl,aB⟩;have aV:Hid _:=aB;clear aB hWH;go_wp2_with fail;refine(HTL.out w1 aV.out).mono ?_;rintro e w2 ⟨aJ,u0,u1,b2,m2,e2,b3,m3,e3,b4,m4,e4,b5,m5,e5,u6,u7,u8,u9,u10,b11,m11,e11,qa,qk,qc,rfl,uj⟩;have bp:Hid _:=aV.out.trans (aJ.mono aV.out.size);clear aJ HTL aV;obtain⟨V,hV⟩:∃V,V=(w2.alloc (AT #[Y u0,Y u1,J b2 m2 e2,J b3 m3 e3,J b4 m4 e4,J b5 m5 e5,U O u6,U O u7,U O u8,U O u9,U O u10,J b11 m11 e11] 42)).alloc (AT #[Y x0,Ia false,J qa qk qc,J be 0 0,J be 0 0,J be 0 0] 53):=⟨_,rfl⟩;have Ni:Below w2.heap.size w2 V:=by rw[hV];exact((Ib _ _).alloc (Ic _) _).alloc (by simp) _
 have vh:V.heap[w2.heap.size]?=AI (AT #[Y u0,Y u1,J b2 m2 e2,J b3 m3 e3,J b4 m4 e4,J b5 m5 e5,U O u6,U O u7,U O u8,U O u9,U O u10,J b11 m11 e11] 42 (0,0)):=by rw[hV];exact(Om _ _ _ (by simp)).trans (Ih w2 _)
 have Gx:V.heap[w2.heap.size+1]?=AI (AT #[Y x0,Ia false,J qa qk qc,J be 0 0,J be 0 0,J be 0 0] 53 (0,0)):=by
  rw[hV];have:=Ih (w2.alloc (AT #[Y u0,Y u1,J b2 m2 e2,J b3 m3 e3,J b4 m4 e4,J b5 m5 e5,U O u6,U O u7,U O u8,U O u9,U O u10,J b11 m11 e11] 42)) (AT #[Y x0,Ia false,J qa qk qc,J be 0 0,J be 0 0,J be 0 0] 53);simpa using this
 have nE:Hid _:=bp.out.trans (Ni.mono bp.out.size);have Tr:=HF.out _ _ _ _ uj.out Ni;obtain⟨a0,a3,nU⟩:=HX.out V nE.out;obtain⟨d0,d1,d2,d3,d4,d5,d6,d7,d8,d9,d10,d11⟩:=HC.out V nU;obtain⟨z0,z1,z2,z3,z4,z5,z6,z7,z8,z9,z10,z11⟩:=HZ.out V nU;obtain⟨y0,y1,y2,y3,y4,y5,y6,y7,y8,y9,y10,y11⟩:=bA vh;have T4:nb≠w2.heap.size:=by have:=LC.out;have:=bp.out.size;omega
 have nE3:nb≠w2.heap.size+1:=by have:=LC.out;have:=bp.out.size;omega
 obtain⟨W5,iZ⟩:∃W5,W5=JC (aC nb [Y u0,Y u1,J b2 m2 e2,J b3 m3 e3,J b4 m4 e4,J b5 m5 e5,U O u6,U O u7,U O u8,U O u9,U O u10,J b11 m11 e11] (j*12) V):=⟨_,rfl⟩;have LX:=PI.out V _ _ _ _ _ _ _ _ _ _ _ _ _ _ _ _ _ _ _ _ _ _ _ _ _ nE.out Tr;rw[<- iZ] at LX;have hp5:W5.heap[w2.heap.size+1]?=AI (AT #[Y x0,Ia false,J qa qk qc,J be 0 0,J be 0 0,J be 0 0] 53 (0,0)):=by rw[iZ,dB,aX (Ne.symm nE3)];exact Gx
 obtain⟨t0,t1,t2,t3,t4,t5⟩:=fm hp5;simp only[aC,Nat.add_assoc,Jh] at iZ;clear Ni vh Gx hp5 nU Tr uj bp nE HX HC HZ PI HF;go_upto_region 2 with fail
 rw[<- hV];clear hV;go_region_held3 (λw'=>w'.cell? ⟨g,0,be⟩=AI (J (AI ⟨nb,0,be⟩) n n)/\w'.cell? ⟨g,3,be⟩=AI (U O (j:Int))/\w'.cell? ⟨w2.heap.size,0,be⟩=AI (Y u0)/\w'.cell? ⟨w2.heap.size,1,be⟩=AI (Y u1)/\w'.cell? ⟨w2.heap.size,2,be⟩=AI (J b2 m2 e2)/\w'.cell? ⟨w2.heap.size,3,be⟩=AI (J b3 m3 e3)/\w'.cell? ⟨w2.heap.size,4,be⟩=AI (J b4 m4 e4)/\w'.cell? ⟨w2.heap.size,5,be⟩=AI (J b5 m5 e5)/\w'.cell? ⟨w2.heap.size,6,be⟩=AI (U O u6)/\w'.cell? ⟨w2.heap.size,7,be⟩=AI (U O u7)/\w'.cell? ⟨w2.heap.size,8,be⟩=AI (U O u8)/\w'.cell? ⟨w2.heap.size,9,be⟩=AI (U O u9)/\w'.cell? ⟨w2.heap.size,10,be⟩=AI (U O u10)/\w'.cell? ⟨w2.heap.size,11,be⟩=AI (J b11 m11 e11)) (simp only[JQ,Qk,ne_eq,LV,T4,not_false_eq_true,a0,a3,y0,y1,y2,y3,y4,y5,y6,y7,y8,y9,y10,y11,and_self]) (fail)
 obtain⟨W6,uo⟩:∃W6,W6=W5:=⟨_,rfl⟩;have Ep:=uo.trans iZ;rw[<- Ep];rw[uo];clear iZ uo Ep d0 z0 y0 d1 z1 y1 d2 z2 y2 d3 z3 y3 d4 z4 y4 d5 z5 y5 d6 z6 y6 d7 z7 y7 d8 z8 y8 d9 z9 y9 d10 z10 y10 d11 z11 y11 a0 a3;go_wp2_with fail;refine LX.mono ?_;rintro e w6 ⟨er,rfl,P7⟩;have HR6:Hid (Rs er w6):=P7;clear P7 LX;go_wp2_with fail;go_ret;exact⟨er,rfl,HR6.out⟩
theorem K8(C g nb j:Nat)(ul:Value)(ls:List Lt.fb)(v:Ev)(L:List Nx)(w:World)(h:kA C w g (J (AI ⟨nb,0,be⟩) L.length L.length) ul ls v)(hN:cJ C w nb L)(hC:C<=w.heap.size)(h20:ls.length<=20)(hv:v.which=(j:Int))(hj:j<L.length)(he:(L.getD j bX).n.e=0)(hT:∀V,Below C w V->ma V.heap.size V) :
 Calls AS 78 #[Ie (AI ⟨g,0,be⟩)] w λe w'=>∃er,e=By (U O er)/\Below C w w'/\(ls.length<20->er=0)/\(er=0->ls.length<20/\∃y a k c l rest,jk (L.getD j bX).n l rest/\y.n={ (L.getD j bX).n with rs:=rest }/\cJ C w' nb (L.set j y)/\kA C w' g (J (AI ⟨nb,0,be⟩) L.length L.length) (J a k c) (ls++[⟨v.other,(qb (L.getD j bX).n.name l).T⟩]) v):=by
 have dG:=ae h.hg 0;have ji:w.cell? ⟨g,3,be⟩=AI (U O (j:Int)):=by rw[<- hv];exact ae h.hg 3
 have LV:nb≠g:=λe=>by
  have h1:=hN.row;rw[e,h.hg] at h1;simp at h1
 have hWH:=xI C g nb j L.length L.length L w hN hj rfl dG ji;have hc:=λi hi=>lW L j hj i hi;have b9:∀i,i<12->∃u,(iW L).toArray[j*12+i]?=AI u:=λi hi=>by
  refine⟨(L.getD j bX).cs[i]'(by rw[jx];exact hi),?_⟩;rw[QE,hc i hi,List.getElem?_eq_getElem]
 obtain⟨v0,c0⟩:=b9 0 (by omega);obtain⟨v1,c1⟩:=b9 1 (by omega);obtain⟨v2,c2⟩:=b9 2 (by omega);obtain⟨v3,c3⟩:=b9 3 (by omega);obtain⟨v4,c4⟩:=b9 4 (by omega);obtain⟨v5,c5⟩:=b9 5 (by omega);obtain⟨v6,c6⟩:=b9 6 (by omega);obtain⟨v7,c7⟩:=b9 7 (by omega);obtain⟨v8,c8⟩:=b9 8 (by omega);obtain⟨v9,c9⟩:=b9 9 (by omega);obtain⟨v10,c10⟩:=b9 10 (by omega);obtain⟨v11,c11⟩:=b9 11 (by omega);have ho:=hN.own _ (gi hj);have hU:=hN.ok _ (gi hj);clear hc b9;generalize L.getD j bX=x at *;obtain⟨⟨nm,ct,ms,rs,sv,gw,⟨px,py,pz,ph,pq⟩,wh⟩,vm,vr,vs,vg,vw⟩:=x;obtain⟨a2,x2,h2⟩:=aK ho.ms;obtain⟨a3,x3,h3⟩:=aK ho.rs;obtain⟨a4,x4,h4⟩:=aK ho.sv;obtain⟨a5,x5,h5⟩:=aK ho.gw;obtain⟨a11,x11,h11⟩:=aK ho.wh;simp only at h2 h3 h4 h5 h11;subst h2 h3 h4 h5 h11;refine K7 g nb L.length j (iW L).toArray v0 v1 v2 v3 v4 v5 v6 v7 v8 v9 v10 v11 nm ct a2 a3 a4 a5 a11 _ x2 _ x3 _ x4 _ x5 _ x11 px py pz ph pq w (λV xs q=>∃l rest,jk ⟨nm,ct,ms,rs,sv,gw,⟨px,py,pz,ph,pq⟩,wh⟩ l rest/\aeX C ⟨nm,ct,ms,rest,sv,gw,⟨px,py,pz,ph,pq⟩,wh⟩ l V xs q) (λer w'=>_/\(ls.length<20->er=0)/\(er=0->_)) hj dG ji hN.row LV c0 c1 c2 c3 c4 c5 c6 c7 c8 c9 c10 c11 hWH ?_ ?_ ?_
 .intro W hW
  refine(zS _ _ _ _ _ _ W ((ho.is hU).below hW)).mono ?_;rintro e w' ⟨hb,⟨aM,_⟩|⟨_,n',um,ur,us,ug,uw,a,k,c,l,rfl,hn,ht,ho',MU,MH⟩⟩
  .exact absurd he aM
  have Vf:=Iq hC hW.size;have fA:=ho'.mono Vf;clear ho';generalize n'.rs=rest at hn ht;subst hn;obtain⟨b2,d2,e2⟩:=aK fA.ms;obtain⟨b3,d3,e3⟩:=aK fA.rs;obtain⟨b4,d4,e4⟩:=aK fA.sv;obtain⟨b5,d5,e5⟩:=aK fA.gw;obtain⟨b11,d11,e11⟩:=aK fA.wh;subst e2 e3 e4 e5 e11;exact⟨hb,_,_,b2,_,d2,b3,_,d3,b4,_,d4,b5,_,d5,_,_,_,_,_,b11,_,d11,a,k,c,rfl,l,rest,ht,⟨⟨_,_,_,_,_,_⟩,rfl,rfl,fA,MU⟩,Own.mono MH Vf⟩
 .rintro V V' xs q ⟨l,rest,ht,⟨y,rfl,hy,fA,jz⟩,hq⟩ hb
  exact⟨l,rest,ht,⟨y,rfl,hy,fA.below hb,jz⟩,Own.below hq hb⟩
 .rintro V u0 u1 b2 m2 e2 b3 m3 e3 b4 m4 e4 b5 m5 e5 u6 u7 u8 u9 u10 b11 m11 e11 qa qk qc Cp ⟨l,rest,ht,⟨y,hys,hy,fA,jz⟩,hq⟩
  rw[hys];have hl:∀m∈l,m.name.size<=Il:=λm hm=>by
   obtain⟨told,h1,h2,_⟩:=ht;exact(vZ h1 hU.rs).1 m (h2.mem_iff.1 hm)
  have hNt:=hN.turn Cp hC hj fA jz;have eo:∀q,q≠nb->(JC (aC nb y.cs (j*12) V)).heap[q]?=V.heap[q]?:=λq hq=>by rw[dB];exact aX hq _ _ _
  have nU:=(hN.below Cp hC).row;have hP:=(h.below Cp).row nU eo;have hbC:Below C w (JC (aC nb y.cs (j*12) V)):=cD (aQ hN.le _ _ (Cp.mono hC));have hq5:=ek hq (λq cs f e=>(eo q (λe2=>by subst e2;rw[nU] at e;simp at e)).trans e);have hx5:jY (JC (aC nb y.cs (j*12) V)) (qb nm l) (J qa qk qc) (J be 0 0) (J be 0 0) (J be 0 0):=⟨bD hq5 hl,Sv.bD (Sv.bY 0 _) (λm hm=>by cases hm),Gw.bD (Gw.bY 0 _) (λm hm=>by cases hm),Wh.bD (Wh.bY 0 _) (λm hm=>by cases hm),hU.name,nD hq5⟩;have Vf:=Iq hC hbC.size;refine(wB C g _ ul ls v (qb nm l) _ _ _ _ _ hP Vf h20 hx5 (λW zm zs zg zw hT hx=>oF _ _ _ _ _ W hx (.inr (by simp[qb])) hT) (hT _ hbC)).mono ?_;rintro e w' ⟨er,rfl,HS⟩;refine⟨er,rfl,hbC.trans HS.out.1.below,HS.out.2.1,λhz=>?_⟩;obtain⟨mB,a,k,c,hp⟩:=HS.out.2.2 hz;exact⟨mB,y,a,k,c,l,rest,ht,hy,hNt.mv HS.out.1,hp⟩
theorem K9(er:Int)(g nb n k lb m cu j:Nat)(tx:ByteArray)(R:Array Value)(x0 x1:ByteArray)(a2 a3 a4 a5 a11:Option Addr)(n2 k2 n3 k3 n4 k4 n5 k5 n11 k11:Nat)(x6 x7 x8 x9 x10:Int)(w:World)(F G:World->List Value->Prop)(Rs:World->Prop)(hk:k<n)(hj:j<m)(g0:w.cell? ⟨g,0,be⟩=AI (J (AI ⟨nb,0,be⟩) n n))(g1:w.cell? ⟨g,1,be⟩=AI (J (AI ⟨lb,0,be⟩) m cu))(g3:w.cell? ⟨g,3,be⟩=AI (U O (j:Int)))(l0:w.cell? ⟨lb,j*2,be⟩=AI (U O (k:Int)))(l1:w.cell? ⟨lb,j*2+1,be⟩=AI (Y tx))(cQ:w.heap[nb]?=AI (AT R 42 (0,0)))(c0:R[k*12]?=AI (Y x0))(c1:R[k*12+1]?=AI (Y x1))(c2:R[k*12+2]?=AI (J a2 n2 k2))(c3:R[k*12+3]?=AI (J a3 n3 k3))(c4:R[k*12+4]?=AI (J a4 n4 k4))(c5:R[k*12+5]?=AI (J a5 n5 k5))(c6:R[k*12+6]?=AI (U O x6))(c7:R[k*12+7]?=AI (U O x7))(c8:R[k*12+8]?=AI (U O x8))(c9:R[k*12+9]?=AI (U O x9))(c10:R[k*12+10]?=AI (U O x10))(c11:R[k*12+11]?=AI (J a11 n11 k11))(hG:∀V V' xs,G V xs->Below V.heap.size V V'->G V' xs)(hF:∀V V' xs,F V xs->Below V.heap.size V V'->F V' xs)(hFS:∀(V:World) xs (b:Nat) cs L,F V xs->V.heap[b]?=AI (AT cs 42 (0,0))->F (aC b L 0 V) xs)(LV:R[0]? ≠ AI (J (AI ⟨nb,0,be⟩) n n))(hRD:∀W,Below w.heap.size w W->Calls AS 69 #[Y tx] W λe w'=>Below W.heap.size W w'/\∃pf pw p2 q2 r2 p3 q3 r3 p4 q4 r4 p5 q5 r5,e=By (Ik #[Ij #[Y pf,Ia pw,J p2 q2 r2,J p3 q3 r3,J p4 q4 r4,J p5 q5 r5],U O 0])/\Hid (G w' [Y pf,Ia pw,J p2 q2 r2,J p3 q3 r3,J p4 q4 r4,J p5 q5 r5]))(hHR:∀W pf pw p2 q2 r2 p3 q3 r3 p4 q4 r4 p5 q5 r5,Below w.heap.size w W->G W [Y pf,Ia pw,J p2 q2 r2,J p3 q3 r3,J p4 q4 r4,J p5 q5 r5]->Calls AS 24 #[Ij #[Y x0,Y x1,J a2 n2 k2,J a3 n3 k3,J a4 n4 k4,J a5 n5 k5,U O x6,U O x7,U O x8,U O x9,U O x10,J a11 n11 k11],Ij #[Y pf,Ia pw,J p2 q2 r2,J p3 q3 r3,J p4 q4 r4,J p5 q5 r5]] W λe w'=>Below W.heap.size W w'/\∃u0 u1 b2 m2 e2 b3 m3 e3 b4 m4 e4 b5 m5 e5 u6 u7 u8 u9 u10 b11 m11 e11,e=By (Ik #[Ij #[Y u0,Y u1,J b2 m2 e2,J b3 m3 e3,J b4 m4 e4,J b5 m5 e5,U O u6,U O u7,U O u8,U O u9,U O u10,J b11 m11 e11],U O er])/\Hid (F w' [Y u0,Y u1,J b2 m2 e2,J b3 m3 e3,J b4 m4 e4,J b5 m5 e5,U O u6,U O u7,U O u8,U O u9,U O u10,J b11 m11 e11]))(hLS:er=0->∀V u0 u1 b2 m2 e2 b3 m3 e3 b4 m4 e4 b5 m5 e5 u6 u7 u8 u9 u10 b11 m11 e11,Below w.heap.size w V->F V [Y u0,Y u1,J b2 m2 e2,J b3 m3 e3,J b4 m4 e4,J b5 m5 e5,U O u6,U O u7,U O u8,U O u9,U O u10,J b11 m11 e11]->Calls AS 81 #[Ie (AI ⟨g,0,be⟩)] (JC (aC nb [Y u0,Y u1,J b2 m2 e2,J b3 m3 e3,J b4 m4 e4,J b5 m5 e5,U O u6,U O u7,U O u8,U O u9,U O u10,J b11 m11 e11] (k*12) V)) λe w'=>e=By (U O 0)/\Rs w')(hL2:er≠0->∀V,Below w.heap.size w V->Calls AS 81 #[Ie (AI ⟨g,0,be⟩)] V λe w'=>e=By (U O 0)/\Rs w') :
 Calls AS 80 #[Ie (AI ⟨g,0,be⟩)] w λe w'=>e=By (U O 0)/\Rs w':=by
 have dn:=Ix w _ g0;have aN:=(BY.1 cQ).1;have HG:Hid _:=hG;have HF:Hid _:=hF;have HFS:Hid _:=hFS;have HNG:Hid _:=LV;have jZ:Hid _:=aN;have PK:Hid _:=hRD;have HHR:Hid _:=hHR;have HLS:Hid _:=hLS;have Mh:Hid _:=hL2;have HX:Hid (∀V,Below w.heap.size w V->V.cell? ⟨g,0,be⟩=AI (J (AI ⟨nb,0,be⟩) n n)/\V.heap[nb]?=AI (AT R 42 (0,0))):=λV hV=>⟨(hV.cell (p:=⟨g,0,be⟩) dn).trans g0,(hV.block nb aN).trans cQ⟩;have HC:Hid (∀V:World,V.heap[nb]?=AI (AT R 42 (0,0))->V.cell? ⟨nb,k*12,be⟩=AI (Y x0)/\V.cell? ⟨nb,k*12+1,be⟩=AI (Y x1)/\V.cell? ⟨nb,k*12+2,be⟩=AI (J a2 n2 k2)/\V.cell? ⟨nb,k*12+3,be⟩=AI (J a3 n3 k3)/\V.cell? ⟨nb,k*12+4,be⟩=AI (J a4 n4 k4)/\V.cell? ⟨nb,k*12+5,be⟩=AI (J a5 n5 k5)/\V.cell? ⟨nb,k*12+6,be⟩=AI (U O x6)/\V.cell? ⟨nb,k*12+7,be⟩=AI (U O x7)/\V.cell? ⟨nb,k*12+8,be⟩=AI (U O x8)/\V.cell? ⟨nb,k*12+9,be⟩=AI (U O x9)/\V.cell? ⟨nb,k*12+10,be⟩=AI (U O x10)/\V.cell? ⟨nb,k*12+11,be⟩=AI (J a11 n11 k11)):=λV hV=>⟨(ae hV _).trans c0,(ae hV _).trans c1,(ae hV _).trans c2,(ae hV _).trans c3,(ae hV _).trans c4,(ae hV _).trans c5,(ae hV _).trans c6,(ae hV _).trans c7,(ae hV _).trans c8,(ae hV _).trans c9,(ae hV _).trans c10,(ae hV _).trans c11⟩;have HZ:Hid (∀V:World,V.heap[nb]?=AI (AT R 42 (0,0))->V.frozen? ⟨nb,k*12,be⟩=false/\V.frozen? ⟨nb,k*12+1,be⟩=false/\V.frozen? ⟨nb,k*12+2,be⟩=false/\V.frozen? ⟨nb,k*12+3,be⟩=false/\V.frozen? ⟨nb,k*12+4,be⟩=false/\V.frozen? ⟨nb,k*12+5,be⟩=false/\V.frozen? ⟨nb,k*12+6,be⟩=false/\V.frozen? ⟨nb,k*12+7,be⟩=false/\V.frozen? ⟨nb,k*12+8,be⟩=false/\V.frozen? ⟨nb,k*12+9,be⟩=false/\V.frozen? ⟨nb,k*12+10,be⟩=false/\V.frozen? ⟨nb,k*12+11,be⟩=false):=λV hV=>⟨an hV _,an hV _,an hV _,an hV _,an hV _,an hV _,an hV _,an hV _,an hV _,an hV _,an hV _,an hV _⟩;have Tm:(j:Int)<(m:Int):=by omega
 have fQ:(k:Int)<(n:Int):=by omega
 have ML:(0:Int)<=(j:Int):=by omega
 have uT:(0:Int)<=(k:Int):=by omega
 have hjt:((j:Int)).toNat=j:=by omega
 have hkt:((k:Int)).toNat=k:=by omega
 obtain⟨Wa,hWa⟩:∃Wa,Wa=JC (w.alloc (AT #[U O (k:Int),Y tx] 102)):=⟨_,rfl⟩;have sx:Below w.heap.size w Wa:=by rw[hWa];exact cD ((Ib _ _).alloc (Ic _) _)
 have kL:Wa.heap[w.heap.size]?=AI (AT #[U O (k:Int),Y tx] 102 (0,0)):=by rw[hWa,dB];exact Ih w _
 have HSA:Hid _:=(BY.1 kL).1;have Ts:Hid _:=sx;have T1:Hid _:=kL;have s1:=ae kL 1;clear hFS LV hG hF hRD hHR hLS hL2 sx kL c0 c1 c2 c3 c4 c5 c6 c7 c8 c9 c10 c11 cQ g0 dn aN hk hj;go_enter Tryz.func80,Tryz.ntmps80;go_wp2_with fail;go_region_held3 (λw'=>w'.cell? ⟨g,1,be⟩=AI (J (AI ⟨lb,0,be⟩) m cu)/\w'.cell? ⟨g,3,be⟩=AI (U O (j:Int))/\w'.cell? ⟨lb,j*2,be⟩=AI (U O (k:Int))/\w'.cell? ⟨lb,j*2+1,be⟩=AI (Y tx)) (go_keep) (fail)
 go_wp2_with fail;rw[<- hWa];clear hWa g1 g3 l0 l1 Tm ML hjt;refine(PK.out Wa Ts.out).mono ?_;rintro e w1 ⟨aB,pf,pw,p2,q2,r2,p3,q3,r3,p4,q4,r4,p5,q5,r5,rfl,uS⟩;have aV:Hid _:=Ts.out.trans (aB.mono Ts.out.size);have vA:Hid _:=(aB.block _ HSA.out).trans T1.out;clear aB PK s1;obtain⟨W2,bF,aJ,-,vG⟩:=bW w1 #[Y pf,Ia pw,J p2 q2 r2,J p3 q3 r3,J p4 q4 r4,J p5 q5 r5] 53;have wK:Hid (G W2 [Y pf,Ia pw,J p2 q2 r2,J p3 q3 r3,J p4 q4 r4,J p5 q5 r5]):=HG.out _ _ _ uS.out aJ;have bp:Hid (Below w.heap.size w W2):=aV.out.trans (aJ.mono aV.out.size);have uK:Hid (W2.heap[w.heap.size]?=AI (AT #[U O (k:Int),Y tx] 102 (0,0))):=(aJ.block _ (BY.1 vA.out).1).trans vA.out;have od:Hid _:=vG;have g0:=(HX.out W2 bp.out).1;have s0:W2.cell? ⟨w.heap.size,0,be⟩=AI (U O (k:Int)):=ae uK.out 0;obtain⟨c0,c1,c2,c3,c4,c5,c6,c7,c8,c9,c10,c11⟩:=HC.out W2 (HX.out W2 bp.out).2;obtain⟨q0_,q1_,q2_,q3_,q4_,q5_⟩:=fm vG;clear aJ vG uS aV;go_upto_region 3 with fail
 rw[<- bF];clear bF vA;have Sx:Hid (∀W,Below W2.heap.size W2 W->W.cell? ⟨g,0,be⟩=AI (J (AI ⟨nb,0,be⟩) n n)/\W.cell? ⟨w.heap.size,0,be⟩=AI (U O (k:Int))/\W.cell? ⟨nb,k*12,be⟩=AI (Y x0)/\W.cell? ⟨nb,k*12+1,be⟩=AI (Y x1)/\W.cell? ⟨nb,k*12+2,be⟩=AI (J a2 n2 k2)/\W.cell? ⟨nb,k*12+3,be⟩=AI (J a3 n3 k3)/\W.cell? ⟨nb,k*12+4,be⟩=AI (J a4 n4 k4)/\W.cell? ⟨nb,k*12+5,be⟩=AI (J a5 n5 k5)/\W.cell? ⟨nb,k*12+6,be⟩=AI (U O x6)/\W.cell? ⟨nb,k*12+7,be⟩=AI (U O x7)/\W.cell? ⟨nb,k*12+8,be⟩=AI (U O x8)/\W.cell? ⟨nb,k*12+9,be⟩=AI (U O x9)/\W.cell? ⟨nb,k*12+10,be⟩=AI (U O x10)/\W.cell? ⟨nb,k*12+11,be⟩=AI (J a11 n11 k11)/\W.cell? ⟨w1.heap.size,0,be⟩=AI (Y pf)/\W.cell? ⟨w1.heap.size,1,be⟩=AI (Ia pw)/\W.cell? ⟨w1.heap.size,2,be⟩=AI (J p2 q2 r2)/\W.cell? ⟨w1.heap.size,3,be⟩=AI (J p3 q3 r3)/\W.cell? ⟨w1.heap.size,4,be⟩=AI (J p4 q4 r4)/\W.cell? ⟨w1.heap.size,5,be⟩=AI (J p5 q5 r5)):=λW hW=>by
  have hx:=HX.out W (bp.out.trans (hW.mono bp.out.size));obtain⟨e0_,e1_,e2_,e3_,e4_,e5_,e6_,e7_,e8_,e9_,afh,afi⟩:=HC.out W hx.2;exact⟨hx.1,ae ((hW.block _ (BY.1 uK.out).1).trans uK.out) 0,e0_,e1_,e2_,e3_,e4_,e5_,e6_,e7_,e8_,e9_,afh,afi,fm ((hW.block _ (BY.1 od.out).1).trans od.out)⟩
 have RT:W2.heap.size≠g:=λe=>by have:=bp.out.size;have:=Ix W2 ⟨g,0,be⟩ g0;simp at this;omega
 have RU:W2.heap.size≠w.heap.size:=λe=>by have:=(BY.1 uK.out).1;omega
 have Xc:W2.heap.size≠nb:=λe=>by have:=Ix W2 ⟨nb,k*12,be⟩ c0;simp at this;omega
 have Xd:W2.heap.size≠w1.heap.size:=λe=>by have:=(BY.1 od.out).1;omega
 go_region_held3 (λw'=>w'.cell? ⟨g,0,be⟩=AI (J (AI ⟨nb,0,be⟩) n n)/\w'.cell? ⟨w.heap.size,0,be⟩=AI (U O (k:Int))/\w'.cell? ⟨nb,k*12,be⟩=AI (Y x0)/\w'.cell? ⟨nb,k*12+1,be⟩=AI (Y x1)/\w'.cell? ⟨nb,k*12+2,be⟩=AI (J a2 n2 k2)/\w'.cell? ⟨nb,k*12+3,be⟩=AI (J a3 n3 k3)/\w'.cell? ⟨nb,k*12+4,be⟩=AI (J a4 n4 k4)/\w'.cell? ⟨nb,k*12+5,be⟩=AI (J a5 n5 k5)/\w'.cell? ⟨nb,k*12+6,be⟩=AI (U O x6)/\w'.cell? ⟨nb,k*12+7,be⟩=AI (U O x7)/\w'.cell? ⟨nb,k*12+8,be⟩=AI (U O x8)/\w'.cell? ⟨nb,k*12+9,be⟩=AI (U O x9)/\w'.cell? ⟨nb,k*12+10,be⟩=AI (U O x10)/\w'.cell? ⟨nb,k*12+11,be⟩=AI (J a11 n11 k11)/\w'.cell? ⟨w1.heap.size,0,be⟩=AI (Y pf)/\w'.cell? ⟨w1.heap.size,1,be⟩=AI (Ia pw)/\w'.cell? ⟨w1.heap.size,2,be⟩=AI (J p2 q2 r2)/\w'.cell? ⟨w1.heap.size,3,be⟩=AI (J p3 q3 r3)/\w'.cell? ⟨w1.heap.size,4,be⟩=AI (J p4 q4 r4)/\w'.cell? ⟨w1.heap.size,5,be⟩=AI (J p5 q5 r5)) (first|go_keep|(obtain⟨i0_,i1_,i2_,i3_,i4_,i5_,i6_,i7_,i8_,i9_,afj,afk,afl,afm,afn,afo,afp,afq,afr,afs⟩:=hS;simp only[JQ,Qk,ne_eq,RT,RU,Xc,Xd,not_false_eq_true,i0_,i1_,i2_,i3_,i4_,i5_,i6_,i7_,i8_,i9_,afj,afk,afl,afm,afn,afo,afp,afq,afr,afs,and_self])) (first|(go_at_call 24;refine Ow (HHR.out _ _ _ _ _ _ _ _ _ _ _ _ _ _ _ (by first|exact cD bp.out|exact cD (bp.out.alloc bp.out.size _)) (HG.out _ _ _ wK.out (by first|exact cD (Ib _ _)|exact cD ((Ib _ _).alloc (Ic _) _)))) ?_;rintro e w3 ⟨bV,u0,u1,b2,m2,e2,b3,m3,e3,b4,m4,e4,b5,m5,e5,u6,u7,u8,u9,u10,b11,m11,e11,rfl,rM⟩;first
  |(have cj:Hid (Below W2.heap.size W2 w3):=(Ib W2.heap.size W2).drew.trans bV
    have hS:=Sx.out w3 cj.out;clear bV)
  |(have cj:Hid (Below W2.heap.size W2 w3):=(cD ((Ib W2.heap.size W2).alloc (Ic _) _)).trans (bV.mono (by simp))
    have qi:w3.heap[W2.heap.size]?=AI (AT #[Y ⟨#[]⟩,Y ⟨#[]⟩,J be 0 0,J be 0 0,J be 0 0,J be 0 0,U O 0,U O 0,U O 0,U O 0,U O 0,J be 0 0] 42 (0,0)):=(bV.block _ (by simp)).trans (Ih W2 _);have hS:=Sx.out w3 cj.out;obtain⟨f0,f1,f2,f3,f4,f5,f6,f7,f8,f9,f10,f11⟩:=bA qi;obtain⟨h0,h1,h2,h3,h4,h5,h6,h7,h8,h9,h10,h11⟩:=jT qi;clear bV)))
 all_goals
  first
  |(obtain⟨V,hV⟩:∃V,V=w3.alloc (AT #[Y u0,Y u1,J b2 m2 e2,J b3 m3 e3,J b4 m4 e4,J b5 m5 e5,U O u6,U O u7,U O u8,U O u9,U O u10,J b11 m11 e11] 42):=⟨_,rfl⟩
    rw[<- hV];have vh:V.heap[w3.heap.size]?=AI (AT #[Y u0,Y u1,J b2 m2 e2,J b3 m3 e3,J b4 m4 e4,J b5 m5 e5,U O u6,U O u7,U O u8,U O u9,U O u10,J b11 m11 e11] 42 (0,0)):=by rw[hV];exact Ih w3 _
    have nE:Hid (Below W2.heap.size W2 V):=by rw[hV];exact cj.out.alloc cj.out.size _
    have Tr:Hid (F V [Y u0,Y u1,J b2 m2 e2,J b3 m3 e3,J b4 m4 e4,J b5 m5 e5,U O u6,U O u7,U O u8,U O u9,U O u10,J b11 m11 e11]):=by rw[hV];exact HF.out _ _ _ rM.out ((Ib _ _).alloc (Ic _) _)
    have hmb:w.heap.size<=w3.heap.size:=Iq bp.out.size cj.out.size;clear hV rM cj hS;generalize w3.heap.size=mb at vh hmb ⊢)
  |(obtain⟨V,hV⟩:∃V,V=((((((((((((w3.setCell ⟨W2.heap.size,0,be⟩ (Y u0)).setCell ⟨W2.heap.size,1,be⟩ (Y u1)).setCell ⟨W2.heap.size,2,be⟩ (J b2 m2 e2)).setCell ⟨W2.heap.size,3,be⟩ (J b3 m3 e3)).setCell ⟨W2.heap.size,4,be⟩ (J b4 m4 e4)).setCell ⟨W2.heap.size,5,be⟩ (J b5 m5 e5)).setCell ⟨W2.heap.size,6,be⟩ (U O u6)).setCell ⟨W2.heap.size,7,be⟩ (U O u7)).setCell ⟨W2.heap.size,8,be⟩ (U O u8)).setCell ⟨W2.heap.size,9,be⟩ (U O u9)).setCell ⟨W2.heap.size,10,be⟩ (U O u10)).setCell ⟨W2.heap.size,11,be⟩ (J b11 m11 e11)):=⟨_,rfl⟩
    rw[<- hV];have hV2:V=aC W2.heap.size [Y u0,Y u1,J b2 m2 e2,J b3 m3 e3,J b4 m4 e4,J b5 m5 e5,U O u6,U O u7,U O u8,U O u9,U O u10,J b11 m11 e11] 0 w3:=by rw[hV];simp only[aC,IC,Jh]
    clear hV f0 f1 f2 f3 f4 f5 f6 f7 f8 f9 f10 f11 h0 h1 h2 h3 h4 h5 h6 h7 h8 h9 h10 h11;have vh:V.heap[W2.heap.size]?=AI (AT #[Y u0,Y u1,J b2 m2 e2,J b3 m3 e3,J b4 m4 e4,J b5 m5 e5,U O u6,U O u7,U O u8,U O u9,U O u10,J b11 m11 e11] 42 (0,0)):=by rw[hV2];exact kO qi _ _ _ _ _ _ _ _ _ _ _ _
    have nE:Hid (Below W2.heap.size W2 V):=by rw[hV2];exact aQ (Ic _) _ _ cj.out
    have Tr:Hid (F V [Y u0,Y u1,J b2 m2 e2,J b3 m3 e3,J b4 m4 e4,J b5 m5 e5,U O u6,U O u7,U O u8,U O u9,U O u10,J b11 m11 e11]):=by rw[hV2];exact HFS.out _ _ _ _ _ rM.out qi
    have hmb:w.heap.size<=W2.heap.size:=bp.out.size;clear hV2 rM cj hS qi;generalize aft:W2.heap.size=mb at vh hmb ⊢;clear aft)
  have lM:Hid (Below w.heap.size w V):=bp.out.trans (nE.out.mono bp.out.size);have X8:V.heap[w.heap.size]?=AI (AT #[U O (k:Int),Y tx] 102 (0,0)):=(nE.out.block _ (BY.1 uK.out).1).trans uK.out;clear g0 s0 c0  c1  c2  c3  c4  c5  c6  c7  c8  c9  c10  c11  q0_ q1_ q2_ q3_ q4_ q5_;have g0:=(HX.out V lM.out).1;have s0:V.cell? ⟨w.heap.size,0,be⟩=AI (U O (k:Int)):=ae X8 0;obtain⟨c0,c1,c2,c3,c4,c5,c6,c7,c8,c9,c10,c11⟩:=HC.out V (HX.out V lM.out).2;obtain⟨z0,z1,z2,z3,z4,z5,z6,z7,z8,z9,z10,z11⟩:=HZ.out V (HX.out V lM.out).2;obtain⟨y0,y1,y2,y3,y4,y5,y6,y7,y8,y9,y10,y11⟩:=bA vh;have nE1:nb≠g:=λe=>by
   have h1:=(HX.out V lM.out).1;rw[<- e,ae (HX.out V lM.out).2 0] at h1;exact HNG.out h1
  have T4:nb≠w.heap.size:=λe=>by have:=jZ.out;omega
  have nE3:nb≠mb:=λe=>by have:=jZ.out;omega
  by_cases her:er=0
  .subst her
   have LX:=HLS.out rfl V _ _ _ _ _ _ _ _ _ _ _ _ _ _ _ _ _ _ _ _ _ _ lM.out Tr.out;clear lM nE Tr vh X8 hmb RT RU Xc Xd;go_wp2_with fail;go_region_held3 (λw'=>w'.cell? ⟨g,0,be⟩=AI (J (AI ⟨nb,0,be⟩) n n)/\w'.cell? ⟨w.heap.size,0,be⟩=AI (U O (k:Int))/\w'.cell? ⟨mb,0,be⟩=AI (Y u0)/\w'.cell? ⟨mb,1,be⟩=AI (Y u1)/\w'.cell? ⟨mb,2,be⟩=AI (J b2 m2 e2)/\w'.cell? ⟨mb,3,be⟩=AI (J b3 m3 e3)/\w'.cell? ⟨mb,4,be⟩=AI (J b4 m4 e4)/\w'.cell? ⟨mb,5,be⟩=AI (J b5 m5 e5)/\w'.cell? ⟨mb,6,be⟩=AI (U O u6)/\w'.cell? ⟨mb,7,be⟩=AI (U O u7)/\w'.cell? ⟨mb,8,be⟩=AI (U O u8)/\w'.cell? ⟨mb,9,be⟩=AI (U O u9)/\w'.cell? ⟨mb,10,be⟩=AI (U O u10)/\w'.cell? ⟨mb,11,be⟩=AI (J b11 m11 e11)) (simp only[JQ,Qk,ne_eq,nE1,T4,nE3,not_false_eq_true,g0,s0,y0,y1,y2,y3,y4,y5,y6,y7,y8,y9,y10,y11,and_self]) (fail)
   go_wp2_with fail;simp only[aC,Nat.add_assoc,Jh] at LX;refine LX.mono ?_;rintro e w6 ⟨rfl,P7⟩;have HR6:Hid (Rs w6):=P7;clear P7 LX g0 s0 c0 z0 y0 c1 z1 y1 c2 z2 y2 c3 z3 y3 c4 z4 y4 c5 z5 y5 c6 z6 y6 c7 z7 y7 c8 z8 y8 c9 z9 y9 c10 z10 y10 c11 z11 y11;go_wp2_with fail;go_ret;exact⟨rfl,HR6.out⟩
  .have LX:=Mh.out her V lM.out
   have hd:(er==0)=false:=by simpa using her
   clear lM nE Tr vh X8 hmb RT RU Xc Xd her c0 z0 y0 c1 z1 y1 c2 z2 y2 c3 z3 y3 c4 z4 y4 c5 z5 y5 c6 z6 y6 c7 z7 y7 c8 z8 y8 c9 z9 y9 c10 z10 y10 c11 z11 y11 nE1 T4 nE3;go_wp2_with fail;refine LX.mono ?_;rintro e w6 ⟨rfl,P7⟩;have HR6:Hid (Rs w6):=P7;clear P7 LX g0 s0;go_wp2_with fail;go_ret;exact⟨rfl,HR6.out⟩
def La(L:List Nx)(k:Nat)(p:Pk)(L':List Nx):Prop:=(pR (L.getD k bX).n p≠0/\L'=L)\/(pR (L.getD k bX).n p=0/\∃y,y.n=rQ (L.getD k bX).n p/\L'=L.set k y)
theorem Ad(C g nb j k:Nat)(ul:Value)(ls:List Lt.fb)(v:Ev)(L:List Nx)(p:Pk)(w:World)(h:kA C w g (J (AI ⟨nb,0,be⟩) L.length L.length) ul ls v)(hN:cJ C w nb L)(hC:C<=w.heap.size)(h20:ls.length<=20)(hv:v.which=(j:Int))(hj:j<ls.length)(to:Int)(tx:ByteArray)(hl:ls.getD j Lt.dm=⟨to,tx⟩)(VY:to=(k:Int))(hk:k<L.length)(NT:yu tx.data.toList=AI p)(cF:tx.data.toList.length<=16777216)(he:(L.getD k bX).n.e=0)(hV:Rv w.heap.size w)(hHr:∀W vm vr vs vg vw zm zs zg zw,eS W (L.getD k bX).n vm vr vs vg vw->jY W p zm zs zg zw->Calls AS 24 #[Ij (dt (L.getD k bX).n vm vr vs vg vw),Ij #[Y p.cU,Ia p.whole,zm,zs,zg,zw]] W λe w'=>dz (L.getD k bX).n.e (pR (L.getD k bX).n p) (rQ (L.getD k bX).n p) W e w') :
 Calls AS 80 #[Ie (AI ⟨g,0,be⟩)] w λe w'=>e=By (U O 0)/\Below C w w'/\∃L' a kk c,La L k p L'/\cJ C w' nb L'/\kA C w' g (J (AI ⟨nb,0,be⟩) L.length L.length) (J a kk c) (ls.eraseIdx j) v:=by
 have dG:=ae h.hg 0;have cK:=ae h.hg 1;have ji:w.cell? ⟨g,3,be⟩=AI (U O (j:Int)):=by rw[<- hv];exact ae h.hg 3
 obtain⟨hpB,Dc⟩:=kU.1 NT;have afu:=oE Dc;obtain⟨lb,cu,LB⟩:∃lb cu,ul=J (AI ⟨lb,0,be⟩) ls.length cu:=by
  rcases h.ls.2 with⟨_,h0⟩|⟨b',c,cur,rfl,_⟩
  .omega
  .exact⟨b',c,rfl⟩
 have hls:=h.ls;rw[LB] at hls cK;have Vd:∀i,i<2->w.cell? ⟨lb,j*2+i,be⟩=[U O (k:Int),Y tx][i]?:=λi hi=>by
  rw[World.ownsRow.cellAt hls _ (by have:=Lt.cP ls;omega)];have h2:=Lt.eb ls j hj i hi;rw[h2,hl,VY];rfl
 have hc:=λi hi=>lW L k hk i hi;have ho:=hN.own _ (gi hk);have hU:=hN.ok _ (gi hk);have aaf:∀L',La L k p L'↔(pR (L.getD k bX).n p≠0/\L'=L)\/(pR (L.getD k bX).n p=0/\∃y,y.n=rQ (L.getD k bX).n p/\L'=L.set k y):=λL'=>Iff.rfl;generalize hx:L.getD k bX=x at *;obtain⟨⟨nm,ct,ms,rs,sv,gw,⟨px,py,pz,ph,pq⟩,wh⟩,vm,vr,vs,vg,vw⟩:=x;obtain⟨a2,c2,h2⟩:=aK ho.ms;obtain⟨a3,c3,h3⟩:=aK ho.rs;obtain⟨a4,c4,h4⟩:=aK ho.sv;obtain⟨a5,c5,h5⟩:=aK ho.gw;obtain⟨a11,c11,h11⟩:=aK ho.wh;simp only at h2 h3 h4 h5 h11;subst h2 h3 h4 h5 h11;refine K9 (pR ⟨nm,ct,ms,rs,sv,gw,⟨px,py,pz,ph,pq⟩,wh⟩ p) g nb L.length k lb ls.length cu j tx (iW L).toArray nm ct a2 a3 a4 a5 a11 _ c2 _ c3 _ c4 _ c5 _ c11 px py pz ph pq w (λV xs=>pR ⟨nm,ct,ms,rs,sv,gw,⟨px,py,pz,ph,pq⟩,wh⟩ p=0->aew C (rQ ⟨nm,ct,ms,rs,sv,gw,⟨px,py,pz,ph,pq⟩,wh⟩ p) V xs) (aex p) _ hk hj dG cK ji (Vd 0 (by omega)) (Vd 1 (by omega)) hN.row
  (List.getElem?_toArray.trans (hc 0 (by omega))) (List.getElem?_toArray.trans (hc 1 (by omega))) (List.getElem?_toArray.trans (hc 2 (by omega))) (List.getElem?_toArray.trans (hc 3 (by omega))) (List.getElem?_toArray.trans (hc 4 (by omega))) (List.getElem?_toArray.trans (hc 5 (by omega))) (List.getElem?_toArray.trans (hc 6 (by omega))) (List.getElem?_toArray.trans (hc 7 (by omega))) (List.getElem?_toArray.trans (hc 8 (by omega))) (List.getElem?_toArray.trans (hc 9 (by omega))) (List.getElem?_toArray.trans (hc 10 (by omega))) (List.getElem?_toArray.trans (hc 11 (by omega)))
  ?_ ?_ ?_ ?_ ?_ ?_ ?_ ?_
 .rintro V V' xs ⟨vm,vs,vg,vw,rfl,hp⟩ hb
  exact⟨vm,vs,vg,vw,rfl,hp.below hb⟩
 .intro V V' xs hF hb hz
  obtain⟨y,rfl,hy,fA,jz⟩:=hF hz;exact⟨y,rfl,hy,fA.below hb,jz⟩
 .intro V xs b cs Ls hF hb hz
  obtain⟨y,rfl,hy,fA,jz⟩:=hF hz;exact⟨y,rfl,hy,fA.row hb (λq hq=>aX hq _ _ _),jz⟩
 .intro e
  have h0:=lW L 0 (by omega) 0 (by omega);simp only[QE] at e;rw[Nat.zero_mul,IC,e] at h0;simp[Nx.cs] at h0
 .intro W hW
  refine(Dh (l:=tx.data.toList) (hV.after hW) cF NT).mono ?_;rintro e w' ⟨hb,wm,ws,wg,ww,rfl,hpo⟩;obtain⟨b2,d2,e2⟩:=aK hpo.ms;obtain⟨b3,d3,e3⟩:=aK hpo.sv;obtain⟨b4,d4,e4⟩:=aK hpo.gw;obtain⟨b5,d5,e5⟩:=aK hpo.wh;subst e2 e3 e4 e5;exact⟨hb,p.cU,p.whole,b2,_,d2,b3,_,d3,b4,_,d4,b5,_,d5,rfl,_,_,_,_,rfl,hpo.isW afu⟩
 .rintro W pf pw p2 q2 r2 p3 q3 r3 p4 q4 r4 p5 q5 r5 hW ⟨wm,ws,wg,ww,TS,hp⟩
  simp only[List.cons.injEq,Value.string.injEq,Value.bool.injEq,and_true] at TS;obtain⟨rfl,rfl,rfl,rfl,rfl,rfl⟩:=TS;have hI:=(ho.is hU).below hW;refine(hHr W _ _ _ _ _ _ _ _ _ hI hp).mono ?_;rintro e w' ⟨hb,⟨aM,_⟩|⟨_,aM,rfl⟩|⟨_,hz,um,ur,us,ug,uw,rfl,ho',MU⟩⟩
  .exact absurd he aM
  .exact⟨hb,_,_,_,_,_,_,_,_,_,_,_,_,_,_,_,_,_,_,_,_,_,_,rfl,λh0=>absurd h0 aM⟩
  .have Vf:=Iq hC hW.size
   have fA:=ho'.mono Vf;clear ho';rw[hz];generalize rQ ⟨nm,ct,ms,rs,sv,gw,⟨px,py,pz,ph,pq⟩,wh⟩ p=n' at *;obtain⟨b2,d2,e2⟩:=aK fA.ms;obtain⟨b3,d3,e3⟩:=aK fA.rs;obtain⟨b4,d4,e4⟩:=aK fA.sv;obtain⟨b5,d5,e5⟩:=aK fA.gw;obtain⟨b11,d11,e11⟩:=aK fA.wh;subst e2 e3 e4 e5 e11;exact⟨hb,n'.name,n'.aD,b2,_,d2,b3,_,d3,b4,_,d4,b5,_,d5,n'.p.x,n'.p.y,n'.p.z,n'.p.h,n'.p.s,b11,_,d11,rfl,λ_=>⟨⟨n',_,_,_,_,_⟩,rfl,rfl,fA,MU⟩⟩
 .intro hz V u0 u1 b2 m2 e2 b3 m3 e3 b4 m4 e4 b5 m5 e5 u6 u7 u8 u9 u10 b11 m11 e11 Cp hF
  obtain⟨y,hys,hy,fA,jz⟩:=hF hz;rw[hys];have hNt:=hN.turn Cp hC hk fA jz;have eo:∀q,q≠nb->(JC (aC nb y.cs (k*12) V)).heap[q]?=V.heap[q]?:=λq hq=>by rw[dB];exact aX hq _ _ _
  have hP:=(h.below Cp).row (hN.below Cp hC).row eo;refine(tG C g j _ ul ls v _ hP h20 hv hj).mono ?_;rintro e w' ⟨rfl,hm,a,kk,c,hp⟩;exact⟨rfl,(cD (aQ hN.le _ _ (Cp.mono hC))).trans hm.below,L.set k y,a,kk,c,(aaf _).2 (.inr ⟨hz,y,hy,rfl⟩),hNt.mv hm,hp⟩
 .intro aM V Cp
  refine(tG C g j _ ul ls v V (h.below Cp) h20 hv hj).mono ?_;rintro e w' ⟨rfl,hm,a,kk,c,hp⟩;exact⟨rfl,(Cp.mono hC).trans hm.below,L,a,kk,c,(aaf _).2 (.inl ⟨aM,rfl⟩),(hN.below Cp hC).mv hm,hp⟩
theorem Lb{ms:List Sv.aT}(hr:Sv.bn ms){t x:Sv.aT}{p:Nat}{f:Bool}(cv:Sv.At ms t p f)(hx:x∈ms)(h:Sv.ord x t=0):Sv.et ms p f=x:=by
 obtain⟨rfl,e⟩:=K2 hr cv hx h;exact e
theorem Lc(ms:List Sv.aT)(s:Sv.aT)(hs:s.ok)(hJ:∀x∈ms,x.ok)(hc:Sv.bj ms=0):∃(E:Int) (X:List Sv.aT),(∀x∈X,x.ok)/\(E=0->∃d,Tj ms s.node d/\Sv.aE ms [d]=0/\X=Sv.av ms [d]) /\ (∀v W,Sv.Sl W v ms->Calls AS 202 #[v,TQ s] W λe w'=>∃p l c,e=By (Ik #[J p l c,U O E])/\Hid (Sv.Own W.heap.size w' (J p l c) X)/\Below W.heap.size W w'):=by
 obtain⟨p,f,cv⟩:=Sv.jI ms (Sv.af hc).2.1 (Sv.keyOf s);refine⟨Sv.aE ms [Sv.Az ms p f s],if Sv.aE ms [Sv.Az ms p f s]=0 then Sv.av ms [Sv.Az ms p f s] else[],?_,λh0=>⟨Sv.Az ms p f s,⟨rfl,λx hx e=>?_⟩,h0,if_pos h0⟩,λv W h=>?_⟩
 .split
  .intro x hx
   rcases Sv.dS _ ms x hx with h|h
   .exact hJ x h
   .rw[Jb.1 h];exact Sv.RV hs
  .intro x hx;cases hx
 .have:=Lb (Sv.af hc).2.1 cv hx e
  show _<(Sv.et ms p f).version+1;rw[this];omega
 .refine(Sv.uV ms v s W h hc hs p f cv).mono ?_
  rintro e w' ⟨v',rfl,h1,h2,h3⟩;have ho:Sv.Own W.heap.size w' v' (if Sv.aE ms [Sv.Az ms p f s]=0 then Sv.av ms [Sv.Az ms p f s] else[]):=by
   by_cases h0:Sv.aE ms [Sv.Az ms p f s]=0
   .rw[if_pos h0];exact h3 h0
   .rw[if_neg h0,h2 h0];exact Sv.bY _ _
  obtain⟨q,c,rfl,_⟩:=aA ho;exact⟨q,_,c,rfl,ho,h1⟩
theorem FE(ms:List Sv.aT)(node bu:ByteArray)(hs:node.size<=Il)(ht:bu.size<=Il)(hJ:∀x∈ms,x.ok)(hc:Sv.bj ms=0):∃(E:Int) (X:List Sv.aT),(∀x∈X,x.ok)/\(E=0->∃d,Tj ms node d/\Sv.aE ms [d]=0/\X=Sv.av ms [d]) /\ (∀v W,Sv.Sl W v ms->Calls AS 203 #[v,Y node,Y bu] W λe w'=>∃p l c,e=By (Ik #[J p l c,U O E])/\Hid (Sv.Own W.heap.size w' (J p l c) X)/\Below W.heap.size W w'):=by
 obtain⟨p,f,cv⟩:=Sv.jI ms (Sv.af hc).2.1 ⟨node,bu,⟨#[]⟩,⟨#[]⟩,0,0,false,0,false⟩;refine⟨Sv.nR ms p f node bu,if Sv.nR ms p f node bu=0 then RL.put ms (Sv.qF ms p f) p f else[],?_,λh0=>?_,λv W h=>?_⟩
 .split
  .exact Sv.RY hJ (Sb hJ p f)
  .intro x hx;cases hx
 .have h1:f=true/\Sv.xi ms p f (Sv.pK (Sv.et ms p f))=0:=by
   unfold Sv.nR at h0;split at h0
   .split at h0
    .rename_i h2
     cases f
     .cases h2
     .exact⟨rfl,h0⟩
    .cases h0
   .cases h0
  obtain⟨rfl,h2⟩:=h1;obtain⟨j1,j2⟩:=Sv.tq hc cv;have h3:=(cv.is.1 rfl).2;refine⟨Sv.qF ms p true,⟨(bT _ _).1 (RL.fo h3).1,λx hx e=>?_⟩,j1.trans h2,by rw[if_pos h0,j2]⟩;have:=Lb (Sv.af hc).2.1 cv hx (RL.Keyed.CA Sv.keyed e h3);show _<(Sv.et ms p true).version+1;rw[this];omega
 .refine(Sv.Ee ms v node bu W h hc hs ht p f cv).mono ?_
  rintro e w' ⟨v',rfl,h1,h23⟩;obtain⟨h2,h3⟩:=h23.out;have ho:Sv.Own W.heap.size w' v' (if Sv.nR ms p f node bu=0 then RL.put ms (Sv.qF ms p f) p f else[]):=by
   by_cases h0:Sv.nR ms p f node bu=0
   .rw[if_pos h0];exact h3 h0
   .rw[if_neg h0,h2 h0];exact Sv.bY _ _
  obtain⟨q,c,rfl,_⟩:=aA ho;exact⟨q,_,c,rfl,ho,h1⟩
theorem FF(gs:List Gw.bK)(name:ByteArray)(addr:Int)(hs:name.size<=Il)(hgs:∀x∈gs,x.ok)(hc:Gw.bj gs=0):∃(E:Int) (X:List Gw.bK),(∀x∈X,x.ok)/\(E=0->∃d,Gw.aE gs [d]=0/\X=Gw.av gs [d]) /\ (∀v W,Gw.Sl W v gs->Calls AS 204 #[v,Y name,U O addr] W λe w'=>∃p l c,e=By (Ik #[J p l c,U O E])/\Hid (Gw.Own W.heap.size w' (J p l c) X)/\Below W.heap.size W w'):=by
 obtain⟨p,f,cv⟩:=Gw.jI gs (Gw.af hc).2.1 ⟨name,0,0⟩;refine⟨Gw.aE gs [Gw.Gg gs p f name addr],if Gw.aE gs [Gw.Gg gs p f name addr]=0 then Gw.av gs [Gw.Gg gs p f name addr] else[],?_,λh0=>⟨_,h0,if_pos h0⟩,λv W h=>?_⟩
 .split
  .intro x hx
   rcases Gw.dS _ gs x hx with h|h
   .exact hgs x h
   .rw[Jb.1 h];exact hs
  .intro x hx;cases hx
 .refine(Gw.D1 gs v name addr W h hc hs p f cv).mono ?_
  rintro e w' ⟨v',rfl,h1,h2,h3⟩;have ho:Gw.Own W.heap.size w' v' (if Gw.aE gs [Gw.Gg gs p f name addr]=0 then Gw.av gs [Gw.Gg gs p f name addr] else[]):=by
   by_cases h0:Gw.aE gs [Gw.Gg gs p f name addr]=0
   .rw[if_pos h0];exact h3 h0
   .rw[if_neg h0,h2 h0];exact Gw.bY _ _
  obtain⟨q,c,rfl,_⟩:=aA ho;exact⟨q,_,c,rfl,ho,h1⟩
structure Ev.Ok(v:Ev):Prop where
 k:(Lit.int .i64 v.kind).wf=true
 nm:v.name.size<=Il
 s:v.s.ok
theorem eD{x:Int}{n:Nat}(h:within x 0 ((n:Int)-1)=true):∃j:Nat,x=(j:Int)/\j<n:=by
 have:=Q2.1 h;exact⟨x.toNat,by omega,by omega⟩
structure nV(t:Nt)(v:Ev)(C g nb:Nat)(ul:Value)(L:List Nx)(W:World):Prop where
 hC:C<=W.heap.size
 N:cJ C W nb L
 map:L.map (·.n)=t.ns
 P:kA C W g (J (AI ⟨nb,0,be⟩) L.length L.length) ul t.ls v
 r:eu t
theorem nV.below{t:Nt}{v:Ev}{C g nb:Nat}{ul:Value}{L:List Nx}{W W':World}(h:nV t v C g nb ul L W)(hb:Below W.heap.size W W'):nV t v C g nb ul L W':=⟨Iq h.hC hb.size,h.N.below hb h.hC,h.map,h.P.below hb,h.r⟩
theorem nV.len{t:Nt}{v:Ev}{C g nb:Nat}{ul:Value}{L:List Nx}{W:World}(h:nV t v C g nb ul L W):L.length=t.ns.length:=by rw[<- h.map,No]
theorem nV.at{t:Nt}{v:Ev}{C g nb:Nat}{ul:Value}{L:List Nx}{W:World}(h:nV t v C g nb ul L W){j:Nat}(hj:j<L.length):(L.getD j bX).n=t.ns.getD j cS/\(L.getD j bX).n.e=0/\il (L.getD j bX).n:=by
 have e:=tY h.map hj;have hl:=h.len;exact⟨e,by rw[e];exact(Nt.aU h.r.e).2.2.1 _ (bq (by omega) cS),h.N.ok _ (gi hj)⟩
abbrev hZ(t:Nt)(v:Ev)(C g nb:Nat)(L:List Nx)(W:World)(e:OT)(w':World):Prop:=∃er,e=By (U O er)/\Below C W w'/\Hid (iG C w' g nb L v True (NR t) er)
section
variable {t:Nt} {v:Ev} {C g nb:Nat} {ul:Value} {L:List Nx} {W:World}
theorem nV.rC{W2:World}(h:nV t v C g nb ul L W)(hb:Below W.heap.size W W2){j:Nat}(hj:j<L.length){er:Int}{n':Nd}{e:OT}{w':World}(he:e=By (U O er)/\NY C W2 g nb j ul t.ls v L er n' w')(hB:er=0->yb (L.getD j bX).n n'):hZ t v C g nb L W e w':=by
 obtain⟨rfl,h1,h2⟩:=he;refine⟨er,rfl,(hb.mono h.hC).trans h1,iG.of λhz=>?_⟩;obtain⟨y,hy,hN,hP⟩:=h2 hz;obtain⟨a,c,rfl⟩:=aK hP.ls;have hl:=h.len;exact⟨⟨t.ns.set j n',t.ls⟩,.inl ⟨j,n',by omega,by rw[<- (h.at hj).1];exact hB hz,rfl⟩,a,_,c,L.set j y,IS,by rw[List.map_set,h.map,hy],hN,hP⟩
theorem nV.bad(h:nV t v C g nb ul L W){er:Int}(aM:er≠0){e:OT}{w':World}(he:e=By (U O er)/\Below W.heap.size W w'):hZ t v C g nb L W e w':=
 ⟨er,he.1,he.2.mono h.hC,iG.of λhz=>absurd hz aM⟩
theorem nV.Cq(h:nV t v C g nb ul L W)(hk:(Lit.int .i64 v.kind).wf=true)(kf:Nat)(fs cs:Array Value)(eg:∀args w,(callFunc kf args).run AS w=.ok (.enter kf args) w)(hf:uq (tP g W.heap.size) v.kind=AI (.func (.func kf) fs cs))(b:Bool)(hT:∀W2,Below W.heap.size W W2->Calls AS 52 #[Ie (AI ⟨g,0,be⟩)] W2 λe w'=>e=By (Ia b)/\Below W2.heap.size W2 w')(hF:b=true->∀W2,Below W.heap.size W W2->W2.heap[W.heap.size]?=AI (AT #[Ie (AI ⟨g,0,be⟩)] 70 (0,0))->Calls AS kf (fs++cs) W2 (hZ t v C g nb L W)) :
 Calls AS 33 #[Ie (AI ⟨g,0,be⟩)] W (hZ t v C g nb L W):=by
 have e2:=ae h.P.hg 2;cases b
 .exact(ET kf fs cs g v.kind W hk hf e2 hT).mono (λe w' he=>h.bad (by decide:(5:Int)≠0) he)
 .exact tQ kf fs cs eg g v.kind _ W hk hf e2 hT (hF rfl)
theorem nV.cells(h:nV t v C g nb ul L W):∃a c,ul=J a t.ls.length c/\∀W2,Below W.heap.size W W2->W2.cell? ⟨g,0,be⟩=AI (J (AI ⟨nb,0,be⟩) L.length L.length)/\W2.cell? ⟨g,1,be⟩=AI (J a t.ls.length c)/\W2.cell? ⟨g,2,be⟩=AI (U O v.kind)/\W2.cell? ⟨g,3,be⟩=AI (U O v.which)/\W2.cell? ⟨g,4,be⟩=AI (U O v.other):=by
 obtain⟨a,c,hu⟩:=aK h.P.ls;refine⟨a,c,hu,λW2 hb=>?_⟩;have hg:=(h.P.below hb).hg;rw[hu] at hg;exact⟨ae hg 0,ae hg 1,ae hg 2,ae hg 3,ae hg 4⟩
theorem nV.one(h:nV t v C g nb ul L W)(hv:v.Ok){c:Int}(hk:v.kind=c)(hc:c=6\/c=7\/c=8\/c=10\/c=11\/c=12)(kf:Nat)(eg:∀args w,(callFunc kf args).run AS w=.ok (.enter kf args) w)(hf:uq (tP g W.heap.size) c=AI (.func (.func kf) #[] #[Ie (AI ⟨W.heap.size,0,be⟩)]))(hF:∀j:Nat,v.which=(j:Int)->j<L.length->∀W2,Below W.heap.size W W2->W2.heap[W.heap.size]?=AI (AT #[Ie (AI ⟨g,0,be⟩)] 70 (0,0))->Calls AS kf #[Ie (AI ⟨W.heap.size,0,be⟩)] W2 (hZ t v C g nb L W)) :
 Calls AS 33 #[Ie (AI ⟨g,0,be⟩)] W (hZ t v C g nb L W):=by
 obtain⟨a,cc,hu,hq⟩:=h.cells;have BJ:L.length<=6:=by rw[h.len];exact(Nt.aU h.r.e).1
 refine h.Cq hv.k kf #[] #[Ie (AI ⟨W.heap.size,0,be⟩)] eg (by rw[hk];exact hf) (within v.which 0 ((L.length:Int)-1)) (λW2 bF=>?_) (λhb W2 bF ru=>?_)
 .obtain⟨q0,q1,q2,q3,q4⟩:=hq W2 bF
  exact SO c hc g L.length _ _ v.which W2 q0 (by rw[<- hk];exact q2) q3 BJ
 .obtain⟨j,hw,hj⟩:=eD hb
  exact hF j hw hj W2 bF ru
theorem FG(h:nV t v C g nb ul L W)(hv:v.Ok)(hk:v.kind=6):Calls AS 33 #[Ie (AI ⟨g,0,be⟩)] W (hZ t v C g nb L W):=
 h.one hv hk (.inl rfl) 83 (Jk Tryz.func83 (by kernel_rfl) rfl) rfl (λj hw hj W2 bF ru=>by
  obtain⟨hx,rH,hU⟩:=h.at hj;have h2:=h.below bF;exact(ye C g nb W.heap.size j ul t.ls v L _ _ W2 h2.P h2.N h2.hC hw hj rH ru ((fT _ _).name) (λW vm vr vs vg vw hI=>vU _ v.name _ _ _ _ _ W hI hv.nm)).mono (λe w' he=>h.rC bF hj he (λhz=>.inl ⟨v.name,1,2,by decide,hz,rfl⟩)))
theorem Ld(h:nV t v C g nb ul L W)(hv:v.Ok)(hk:v.kind=7):Calls AS 33 #[Ie (AI ⟨g,0,be⟩)] W (hZ t v C g nb L W):=
 h.one hv hk (.inr (.inl rfl)) 86 (Jk Tryz.func86 (by kernel_rfl) rfl) rfl (λj hw hj W2 bF ru=>by
  obtain⟨hx,rH,hU⟩:=h.at hj;have h2:=h.below bF;exact(zZ C g nb W.heap.size j ul t.ls v L _ _ W2 h2.P h2.N h2.hC hw hj rH ru ((fT _ _).name) (λW vm vr vs vg vw hI=>KP _ v.name _ _ _ _ _ W hI hv.nm)).mono (λe w' he=>h.rC bF hj he (λhz=>.inl ⟨v.name,2,3,by decide,hz,rfl⟩)))
theorem FH(h:nV t v C g nb ul L W)(hv:v.Ok)(hk:v.kind=8):Calls AS 33 #[Ie (AI ⟨g,0,be⟩)] W (hZ t v C g nb L W):=
 h.one hv hk (.inr (.inr (.inl rfl))) 88 (Jk Tryz.func88 (by kernel_rfl) rfl) rfl (λj hw hj W2 bF ru=>by
  obtain⟨hx,rH,hU⟩:=h.at hj;have h2:=h.below bF;exact(yf C g nb W.heap.size j ul t.ls v L _ _ W2 h2.P h2.N h2.hC hw hj rH ru ((fT _ _).name) (λW vm vr vs vg vw hI=>Fo _ _ _ _ _ _ W hI)).mono (λe w' he=>h.rC bF hj he (λhz=>.inr (.inl ⟨hz,rfl⟩))))
theorem FI(h:nV t v C g nb ul L W)(hv:v.Ok)(hk:v.kind=9):Calls AS 33 #[Ie (AI ⟨g,0,be⟩)] W (hZ t v C g nb L W):=by
 obtain⟨a,c,hu,hq⟩:=h.cells;have BJ:L.length<=6:=by rw[h.len];exact(Nt.aU h.r.e).1
 refine h.Cq hv.k 90 #[] #[Ie (AI ⟨W.heap.size,0,be⟩)] (Jk Tryz.func90 (by kernel_rfl) rfl) (by rw[hk];rfl) (within v.which 0 ((L.length:Int)-1)&&within v.other 0 ((L.length:Int)-1)) (λW2 bF=>?_) (λhb W2 bF ru=>?_)
 .obtain⟨q0,q1,q2,q3,q4⟩:=hq W2 bF
  exact xL 9 (.inr (.inr (rfl))) g L.length _ _ v.which v.other W2 q0 (by rw[<- hk];exact q2) q3 q4 BJ
 .rw[IM] at hb
  obtain⟨j,hw,hj⟩:=eD hb.1;obtain⟨k,ho,iH⟩:=eD hb.2;obtain⟨hx,rH,hU⟩:=h.at hj;have h2:=h.below bF;refine(yh C g nb W.heap.size j ul t.ls v L _ (Gq (L.getD j bX).n (L.getD k bX).n.name v.p v.n) W2 h2.P h2.N h2.hC hw hj rH ru (rfl) k ho iH (λW vm vr vs vg vw hI=>Fq _ (L.getD k bX).n.name v.p v.n _ _ _ _ _ W hI (h.at iH).2.2.name)).mono ?_;exact λe w' he=>h.rC bF hj he (λhz=>.inr (.inr (.inl ⟨_,_,_,hz,rfl⟩)))
theorem FJ(h:nV t v C g nb ul L W)(hv:v.Ok)(hk:v.kind=10):Calls AS 33 #[Ie (AI ⟨g,0,be⟩)] W (hZ t v C g nb L W):=
 h.one hv hk (.inr (.inr (.inr (.inl rfl)))) 92 (Jk Tryz.func92 (by kernel_rfl) rfl) rfl (λj hw hj W2 bF ru=>by
  obtain⟨hx,rH,hU⟩:=h.at hj;have h2:=h.below bF;obtain⟨E,X,hX,hd,hC⟩:=Lc (L.getD j bX).n.sv v.s hv.s hU.sv (Nd.parts (Nd.aU rH).1).sv;exact(yi C g nb W.heap.size j ul t.ls v L _ { (L.getD j bX).n with sv:=X } W2 h2.P h2.N h2.hC hw hj rH ru (rfl) (λW vm vr vs vg vw hI=>Fl _ v.s E X _ _ _ _ _ W hI hX (λ_=>hC))).mono (λe w' he=>h.rC bF hj he (λhz=>.inr (.inr (.inr (.inl (by
   have hE:E=0/\v.s.node=(L.getD j bX).n.name:=by
    unfold rY at hz;split at hz
    .rename_i h;exact⟨hz,h⟩
    .cases hz
   obtain⟨d,d0,d1,d2⟩:=hd hE.1;exact⟨d,hE.2▸d0,d1,by rw[d2]⟩)))))))
theorem Lf(h:nV t v C g nb ul L W)(hv:v.Ok)(hk:v.kind=11):Calls AS 33 #[Ie (AI ⟨g,0,be⟩)] W (hZ t v C g nb L W):=
 h.one hv hk (.inr (.inr (.inr (.inr (.inl rfl))))) 94 (Jk Tryz.func94 (by kernel_rfl) rfl) rfl (λj hw hj W2 bF ru=>by
  obtain⟨hx,rH,hU⟩:=h.at hj;have h2:=h.below bF;obtain⟨E,X,hX,hd,hC⟩:=FE (L.getD j bX).n.sv (L.getD j bX).n.name v.name hU.name hv.nm hU.sv (Nd.parts (Nd.aU rH).1).sv;exact(Aa C g nb W.heap.size j ul t.ls v L _ { (L.getD j bX).n with sv:=X } W2 h2.P h2.N h2.hC hw hj rH ru (rfl) (λW vm vr vs vg vw hI=>KN _ v.name E X _ _ _ _ _ W hI hX (λ_=>hC))).mono (λe w' he=>h.rC bF hj he (λhz=>.inr (.inr (.inr (.inl (by
   obtain⟨d,d0,d1,d2⟩:=hd hz;exact⟨d,d0,d1,by rw[d2]⟩)))))))
theorem Lg(h:nV t v C g nb ul L W)(hv:v.Ok)(hk:v.kind=12):Calls AS 33 #[Ie (AI ⟨g,0,be⟩)] W (hZ t v C g nb L W):=
 h.one hv hk (.inr (.inr (.inr (.inr (.inr (rfl)))))) 96 (Jk Tryz.func96 (by kernel_rfl) rfl) rfl (λj hw hj W2 bF ru=>by
  obtain⟨hx,rH,hU⟩:=h.at hj;have h2:=h.below bF;obtain⟨E,X,hX,hd,hC⟩:=FF (L.getD j bX).n.gw (L.getD j bX).n.aD v.n hU.aD hU.gw (Nd.parts (Nd.aU rH).1).gw;exact(Ab C g nb W.heap.size j ul t.ls v L _ { (L.getD j bX).n with gw:=X } W2 h2.P h2.N h2.hC hw hj rH ru (rfl) (λW vm vr vs vg vw hI=>KO _ v.n E X _ _ _ _ _ W hI hX (λ_=>hC))).mono (λe w' he=>h.rC bF hj he (λhz=>.inr (.inr (.inr (.inr (by
   obtain⟨d,d1,d2⟩:=hd hz;exact⟨d,d1,by rw[d2]⟩)))))))
theorem Lh(h:nV t v C g nb ul L W)(hv:v.Ok)(hk:v.kind=4):Calls AS 33 #[Ie (AI ⟨g,0,be⟩)] W (hZ t v C g nb L W):=by
 obtain⟨a,c,hu,hq⟩:=h.cells;have h20:=(Nt.aU h.r.e).2.1;refine h.Cq hv.k 81 #[Ie (AI ⟨g,0,be⟩)] #[] (Jk Tryz.func81 (by kernel_rfl) rfl) (by rw[hk];rfl) (within v.which 0 ((t.ls.length:Int)-1)) (λW2 bF=>?_) (λhb W2 bF _=>?_)
 .obtain⟨q0,q1,q2,q3,q4⟩:=hq W2 bF
  exact xK 4 (.inr (.inl rfl)) g t.ls.length _ _ v.which W2 q1 (by rw[<- hk];exact q2) q3 h20
 .obtain⟨j,hw,hj⟩:=eD hb
  have h2:=h.below bF;refine(tG C g j _ ul t.ls v W2 h2.P h20 hw hj).mono ?_;rintro e w' ⟨rfl,hm,a,kk,c,hp⟩;exact⟨0,rfl,(bF.mono h.hC).trans hm.below,iG.of λ_=>⟨⟨t.ns,t.ls.eraseIdx j⟩,.inr (.inr (.inr (.inr (.inl ⟨j,rfl⟩)))),a,kk,c,L,rfl,h.map,h2.N.mv hm,hp⟩⟩
theorem FK(h:nV t v C g nb ul L W)(hv:v.Ok)(hk:v.kind=5):Calls AS 33 #[Ie (AI ⟨g,0,be⟩)] W (hZ t v C g nb L W):=by
 obtain⟨a,c,hu,hq⟩:=h.cells;have h20:=(Nt.aU h.r.e).2.1;refine h.Cq hv.k 82 #[Ie (AI ⟨g,0,be⟩)] #[] (Jk Tryz.func82 (by kernel_rfl) rfl) (by rw[hk];rfl) (within v.which 0 ((t.ls.length:Int)-1)) (λW2 bF=>?_) (λhb W2 bF _=>?_)
 .obtain⟨q0,q1,q2,q3,q4⟩:=hq W2 bF
  exact xK 5 (.inr (.inr rfl)) g t.ls.length _ _ v.which W2 q1 (by rw[<- hk];exact q2) q3 h20
 .obtain⟨j,hw,hj⟩:=eD hb
  have h2:=h.below bF;refine(Co C g j _ ul t.ls v W2 h2.P h2.hC h20 hw hj).mono ?_;rintro e w' ⟨er,rfl,HS⟩;refine⟨er,rfl,(bF.mono h.hC).trans HS.out.1.below,iG.of λhz=>?_⟩;obtain⟨hl,a,kk,c,hp⟩:=HS.out.2.2 hz;exact⟨⟨t.ns,t.ls++[t.ls.getD j Lt.dm]⟩,.inr (.inr (.inr (.inr (.inr ⟨j,hj,hl,rfl⟩)))),a,kk,c,L,rfl,h.map,h2.N.mv HS.out.1,hp⟩
theorem FL(h:nV t v C g nb ul L W)(hv:v.Ok)(hk:v.kind=2)(hV:Rv W.heap.size W):Calls AS 33 #[Ie (AI ⟨g,0,be⟩)] W (hZ t v C g nb L W):=by
 obtain⟨a,c,hu,hq⟩:=h.cells;have h20:=(Nt.aU h.r.e).2.1;have hl:=h.len;have BJ:L.length<=6:=by rw[hl];exact(Nt.aU h.r.e).1
 refine h.Cq hv.k 79 #[Ie (AI ⟨g,0,be⟩)] #[] (Jk Tryz.func79 (by kernel_rfl) rfl) (by rw[hk];rfl) (within v.which 0 ((L.length:Int)-1)&&within v.other 0 ((L.length:Int)-1)) (λW2 bF=>?_) (λhb W2 bF _=>?_)
 .obtain⟨q0,q1,q2,q3,q4⟩:=hq W2 bF
  exact xL 2 (.inr (.inl rfl)) g L.length _ _ v.which v.other W2 q0 (by rw[<- hk];exact q2) q3 q4 BJ
 .rw[IM] at hb
  obtain⟨j,hw,hj⟩:=eD hb.1;obtain⟨k,ho,iH⟩:=eD hb.2;obtain⟨hx,rH,hU⟩:=h.at hj;have h2:=h.below bF;refine(rG C g nb j ul t.ls v L W2 h2.P h2.N h2.hC h20 hw hj rH (hV.after bF) (λW zm zs zg zw hT hx=>oF _ _ _ _ _ W hx (.inl rfl) hT)).mono ?_;rintro e w' ⟨er,rfl,HS⟩;refine⟨er,rfl,(bF.mono h.hC).trans HS.out.1.below,iG.of λhz=>?_⟩;obtain⟨mB,a,kk,c,hp⟩:=HS.out.2.2 hz;refine⟨⟨t.ns,t.ls++[⟨((k:Nat):Int),(ep (t.ns.getD j cS)).T⟩]⟩,.inr (.inr (.inl ⟨j,k,by omega,by omega,mB,rfl⟩)),a,kk,c,L,rfl,h.map,h2.N.mv HS.out.1,?_⟩;rw[<- hx,<- ho];exact hp
theorem Li(h:nV t v C g nb ul L W)(hv:v.Ok)(hk:v.kind=1){w:World}(hV:Rv w.heap.size w)(hW:Below w.heap.size w W)(hwC:w.heap.size<=C):Calls AS 33 #[Ie (AI ⟨g,0,be⟩)] W (hZ t v C g nb L W):=by
 obtain⟨a,c,hu,hq⟩:=h.cells;have h20:=(Nt.aU h.r.e).2.1;have hl:=h.len;have BJ:L.length<=6:=by rw[hl];exact(Nt.aU h.r.e).1
 refine h.Cq hv.k 78 #[Ie (AI ⟨g,0,be⟩)] #[] (Jk Tryz.func78 (by kernel_rfl) rfl) (by rw[hk];rfl) (within v.which 0 ((L.length:Int)-1)&&within v.other 0 ((L.length:Int)-1)) (λW2 bF=>?_) (λhb W2 bF _=>?_)
 .obtain⟨q0,q1,q2,q3,q4⟩:=hq W2 bF
  exact xL 1 (.inl rfl) g L.length _ _ v.which v.other W2 q0 (by rw[<- hk];exact q2) q3 q4 BJ
 .rw[IM] at hb
  obtain⟨j,hw,hj⟩:=eD hb.1;obtain⟨k,ho,iH⟩:=eD hb.2;obtain⟨hx,rH,hU⟩:=h.at hj;have h2:=h.below bF;refine(K8 C g nb j ul t.ls v L W2 h2.P h2.N h2.hC h20 hw hj rH (λV Cp=>(hV.after ((hW.trans (bF.mono hW.size)).trans (Cp.mono hwC))).Vu)).mono ?_;rintro e w' ⟨er,rfl,aJ,_,HS⟩;refine⟨er,rfl,(bF.mono h.hC).trans aJ,iG.of λhz=>?_⟩;obtain⟨mB,y,a,kk,c,l,rest,ht,hy,hN,hp⟩:=HS hz;refine⟨⟨t.ns.set j { t.ns.getD j cS with rs:=rest },t.ls++[⟨((k:Nat):Int),(qb (t.ns.getD j cS).name l).T⟩]⟩,.inr (.inl ⟨j,k,l,rest,by omega,by omega,mB,by rw[<- hx];exact ht,rfl⟩),a,kk,c,L.set j y,IS,by rw[List.map_set,h.map,hy,hx],hN,?_⟩;rw[<- hx,<- ho];exact hp
theorem Lj(h:nV t v C g nb ul L W)(hv:v.Ok)(hk:v.kind=3)(hV:Rv W.heap.size W):Calls AS 33 #[Ie (AI ⟨g,0,be⟩)] W (hZ t v C g nb L W):=by
 obtain⟨a,c,hu,hq⟩:=h.cells;have hz:=Nt.aU h.r.e;have hl:=h.len;refine h.Cq hv.k 80 #[Ie (AI ⟨g,0,be⟩)] #[] (Jk Tryz.func80 (by kernel_rfl) rfl) (by rw[hk];rfl) (within v.which 0 ((t.ls.length:Int)-1)) (λW2 bF=>?_) (λhb W2 bF _=>?_)
 .obtain⟨q0,q1,q2,q3,q4⟩:=hq W2 bF
  exact xK 3 (.inl rfl) g t.ls.length _ _ v.which W2 q1 (by rw[<- hk];exact q2) q3 hz.2.1
 .obtain⟨j,hw,hj⟩:=eD hb
  have h2:=h.below bF;have Tn:=bq hj Lt.dm;have aW:=hz.2.2.2.2 _ Tn;have cF:=h.r.sh _ Tn;obtain⟨to,tx,Vg⟩:∃to tx,t.ls.getD j Lt.dm=⟨to,tx⟩:=⟨_,_,rfl⟩;rw[Vg] at aW cF;have h3:within to 0 ((t.ns.length:Int)-1)=true/\(yu tx.data.toList).isSome=true:=by
   unfold vd at aW;split at aW
   .rename_i a1
    split at aW
    .rename_i a2;exact⟨a1,a2⟩
    .cases aW
   .cases aW
  obtain⟨k,VY,fQ⟩:=eD h3.1;obtain⟨p,hp⟩:=Option.isSome_iff_exists.1 h3.2;have iH:k<L.length:=by omega
  obtain⟨hx,rH,hU⟩:=h.at iH;have Dc:=(kU.1 hp).2;have hlen:p.whole=true\/p.sv.length+p.gw.length+p.wh.length<=4611686018427387904:=by
   have C8:=oE Dc;have b1:=C8.sv.1;have b2:=C8.gw.1;have b3:=C8.wh.1;right;omega
  refine(Ad C g nb j k ul t.ls v L p W2 h2.P h2.N h2.hC hz.2.1 hw hj to tx Vg VY iH hp cF rH (hV.after bF) (λW vm vr vs vg vw zm zs zg zw hI hx=>tN _ p _ _ _ _ _ _ _ _ _ W hI hx hlen)).mono ?_;rintro e w' ⟨rfl,aJ,L',a,kk,c,dO,hN,hP⟩;refine⟨0,rfl,(bF.mono h.hC).trans aJ,iG.of λ_=>?_⟩;rcases dO with⟨_,rfl⟩|⟨hh,y,hy,rfl⟩
  .exact⟨⟨t.ns,t.ls.eraseIdx j⟩,.inr (.inr (.inr (.inr (.inl ⟨j,rfl⟩)))),a,kk,c,L',rfl,h.map,hN,hP⟩
  .rw[hx] at hh hy
   exact⟨⟨t.ns.set k (rQ (t.ns.getD k cS) p),t.ls.eraseIdx j⟩,.inr (.inr (.inr (.inl ⟨j,k,p,hj,fQ,by rw[Vg];exact hp,hh,rfl⟩))),a,kk,c,L.set k y,IS,by rw[List.map_set,h.map,hy],hN,hP⟩
end
theorem Lk(t:Nt)(vn vl:Value)(v:Ev)(w:World)(hV:Rv w.heap.size w)(h:gh w t vn vl)(hr:eu t)(hv:v.Ok) :
 Calls AS 19 #[Ij #[vn,vl],Ij (Cc v)] w (qY w True (NR t)):=by
 refine ud t True (NR t) vn vl v w hV h hr.short hr.e (λW C g nb ul L hW hwC hC hN qe hP=>?_);have hp:nV t v C g nb ul L W:=⟨hC,hN,qe,hP,hr⟩;by_cases k6:v.kind=6
 .exact FG hp hv k6
 by_cases k7:v.kind=7
 .exact Ld hp hv k7
 by_cases k8:v.kind=8
 .exact FH hp hv k8
 by_cases k9:v.kind=9
 .exact FI hp hv k9
 by_cases k10:v.kind=10
 .exact FJ hp hv k10
 by_cases k11:v.kind=11
 .exact Lf hp hv k11
 by_cases k12:v.kind=12
 .exact Lg hp hv k12
 by_cases k4:v.kind=4
 .exact Lh hp hv k4
 by_cases k5:v.kind=5
 .exact FK hp hv k5
 by_cases k2:v.kind=2
 .exact FL hp hv k2 (hV.after hW)
 by_cases k1:v.kind=1
 .exact Li hp hv k1 hV hW hwC
 by_cases k3:v.kind=3
 .exact Lj hp hv k3 (hV.after hW)
 refine(ER g v.kind W hv.k ?_ (ae hP.hg 2)).mono (λe w' he=>hp.bad (by decide:(7:Int)≠0) he);simp[tP,uq,k1,k2,k3,k4,k5,k6,k7,k8,k9,k10,k11,k12]
theorem qY.says{w w':World}{t':Nt}{e:OT}(h:qY w False (λx=>x=t') e w'):tX w t' e w':=by
 obtain⟨hb,⟨_,_,hq,_⟩|⟨x,a,k,c,b,l,d,rfl,he,hn⟩⟩:=h
 .exact hq.elim
 .exact⟨hb,a,k,c,b,l,d,he,hn⟩
theorem Cr(t:Nt)(vn vl:Value)(v:Ev)(w:World)(j k:Nat)(hV:Rv w.heap.size w)(h:gh w t vn vl)(hr:eu t)(hk:v.kind=2)(hw:v.which=(j:Int))(hj:j<t.ns.length)(ho:v.other=(k:Int))(fQ:k<t.ns.length)(h20:t.ls.length<20) :
 Calls AS 19 #[Ij #[vn,vl],Ij (Cc v)] w (tX w ⟨t.ns,t.ls++[⟨v.other,(ep (t.ns.getD j cS)).T⟩]⟩):=by
 refine(ud t False (λx=>x=⟨t.ns,t.ls++[⟨v.other,(ep (t.ns.getD j cS)).T⟩]⟩) vn vl v w hV h hr.short hr.e (λW C g nb ul L hW hwC hC hN qe hP=>?_)).mono (λe w' h=>h.says);have hp:nV t v C g nb ul L W:=⟨hC,hN,qe,hP,hr⟩;obtain⟨a,c,hu,hq⟩:=hp.cells;have hl:=hp.len;have BJ:L.length<=6:=by rw[hl];exact(Nt.aU hr.e).1
 refine tQ 79 #[Ie (AI ⟨g,0,be⟩)] #[] (Jk Tryz.func79 (by kernel_rfl) rfl) g 2 (λer w'=>Below C W w'/\Hid (iG C w' g nb L v False (λx=>x=⟨t.ns,t.ls++[⟨v.other,(ep (t.ns.getD j cS)).T⟩]⟩) er)) W (by decide) rfl (by rw[<- hk];exact ae hP.hg 2) (λW2 bF=>?_) (λW2 bF _=>?_)
 .obtain⟨q0,q1,q2,q3,q4⟩:=hq W2 bF
  have:=xL 2 (.inr (.inl rfl)) g L.length _ _ v.which v.other W2 q0 (by rw[<- hk];exact q2) q3 q4 BJ;rw[hw,ho,lY (by omega),lY (by omega)] at this;exact this
 .obtain⟨hx,rH,hU⟩:=hp.at (j:=j) (by omega)
  have h2:=hp.below bF;refine(rG C g nb j ul t.ls v L W2 h2.P h2.N h2.hC (by omega) hw (by omega) rH ((hV.after hW).after bF) (λW zm zs zg zw hT hx=>oF _ _ _ _ _ W hx (.inl rfl) hT)).mono ?_;rintro e w' ⟨er,rfl,HS⟩;obtain rfl:=HS.out.2.1 h20;obtain⟨_,a,kk,c,vG⟩:=HS.out.2.2 rfl;rw[hx] at vG;exact⟨0,rfl,(bF.mono hC).trans HS.out.1.below,⟨λh=>absurd rfl h,λ_=>⟨_,rfl,a,kk,c,L,rfl,qe,h2.N.mv HS.out.1,vG⟩⟩⟩
theorem FM(t:Nt)(vn vl:Value)(v:Ev)(w:World)(j k:Nat)(p:Pk)(hV:Rv w.heap.size w)(h:gh w t vn vl)(hr:eu t)(hk:v.kind=3)(hw:v.which=(j:Int))(hj:j<t.ls.length)(tx:ByteArray)(Vg:t.ls.getD j Lt.dm=⟨(k:Int),tx⟩)(fQ:k<t.ns.length)(NT:yu tx.data.toList=AI p)(hh:pR (t.ns.getD k cS) p=0) :
 Calls AS 19 #[Ij #[vn,vl],Ij (Cc v)] w (tX w ⟨t.ns.set k (rQ (t.ns.getD k cS) p),t.ls.eraseIdx j⟩):=by
 refine(ud t False (λx=>x=⟨t.ns.set k (rQ (t.ns.getD k cS) p),t.ls.eraseIdx j⟩) vn vl v w hV h hr.short hr.e (λW C g nb ul L hW hwC hC hN qe hP=>?_)).mono (λe w' h=>h.says);have hp:nV t v C g nb ul L W:=⟨hC,hN,qe,hP,hr⟩;obtain⟨a,c,hu,hq⟩:=hp.cells;have hl:=hp.len;have hz:=Nt.aU hr.e;refine tQ 80 #[Ie (AI ⟨g,0,be⟩)] #[] (Jk Tryz.func80 (by kernel_rfl) rfl) g 3 (λer w'=>Below C W w'/\Hid (iG C w' g nb L v False (λx=>x=⟨t.ns.set k (rQ (t.ns.getD k cS) p),t.ls.eraseIdx j⟩) er)) W (by decide) rfl (by rw[<- hk];exact ae hP.hg 2) (λW2 bF=>?_) (λW2 bF _=>?_)
 .obtain⟨q0,q1,q2,q3,q4⟩:=hq W2 bF
  have:=xK 3 (.inl rfl) g t.ls.length _ _ v.which W2 q1 (by rw[<- hk];exact q2) q3 hz.2.1;rw[hw,lY hj] at this;exact this
 .obtain⟨hx,rH,hU⟩:=hp.at (j:=k) (by omega)
  have h2:=hp.below bF;have C8:=oE (kU.1 NT).2;have cF:=hr.sh _ (bq hj Lt.dm);rw[Vg] at cF;refine(Ad C g nb j k ul t.ls v L p W2 h2.P h2.N h2.hC hz.2.1 hw hj _ tx Vg rfl (by omega) NT cF rH ((hV.after hW).after bF) (λW vm vr vs vg vw zm zs zg zw hI hx=>tN _ p _ _ _ _ _ _ _ _ _ W hI hx (.inr (by have b1:=C8.sv.1;have b2:=C8.gw.1;have b3:=C8.wh.1;omega)))).mono ?_;rintro e w' ⟨rfl,aJ,L',a,kk,c,dO,hN,hP⟩;rcases dO with⟨aM,_⟩|⟨_,y,hy,rfl⟩
  .rw[hx] at aM;exact absurd hh aM
  .rw[hx] at hy
   exact⟨0,rfl,(bF.mono hC).trans aJ,⟨λh=>absurd rfl h,λ_=>⟨_,rfl,a,kk,c,L.set k y,IS,by rw[List.map_set,qe,hy],hN,hP⟩⟩⟩
def FN:Nd:=Gm ⟨#[97]⟩ ⟨#[99]⟩ 1 false
def FO:Nd:=Gm ⟨#[98]⟩ ⟨#[99]⟩ 2 true
def Ae:Pk:=ep FN
def nbC:Nd:=rQ FO Ae
def ev1:Ev:=⟨2,0,1,0,⟨#[]⟩,⟨0,0,0,0,0⟩,⟨⟨#[]⟩,⟨#[]⟩,⟨#[]⟩,⟨#[]⟩,0,0,false,0,false⟩⟩
def ev2:Ev:=⟨3,0,0,0,⟨#[]⟩,⟨0,0,0,0,0⟩,⟨⟨#[]⟩,⟨#[]⟩,⟨#[]⟩,⟨#[]⟩,0,0,false,0,false⟩⟩
theorem aai:MV ⟨#[97]⟩ ⟨#[99]⟩ 1=0:=by kernel_rfl
theorem aaj:MV ⟨#[98]⟩ ⟨#[99]⟩ 2=0:=by kernel_rfl
theorem P8:(Nt.mk [FN,FO] []).e=0:=by kernel_rfl
theorem P9:Ae.e=0:=by kernel_rfl
theorem Tt:Ae.B.length<=1000:=of_decide_eq_true (by kernel_rfl)
theorem afw:pR FO Ae=0:=by kernel_rfl
theorem aak:nbC.ms.length=2:=by kernel_rfl
theorem aal:Ae.T.data.toList=Ae.B:=by unfold Pk.T;rw[if_pos P9]
theorem Ra:yu Ae.T.data.toList=AI Ae:=by rw[aal];exact kU.2 ⟨rfl,P9⟩
theorem Rb:Ae.T.data.toList.length<=1000:=by rw[aal];exact Tt
theorem Tu:j8 [FN,FO]=0:=by kernel_rfl
theorem aam:vd 2 ⟨1,Ae.T⟩=0:=by
 unfold vd;simp only[Ra];rfl
theorem aan:(Nt.mk [FN,FO] [⟨1,Ae.T⟩]).e=0:=by
 rw[Nt.qR (by simp) Tu];exact if_pos aam
theorem bsize(s:ByteArray):s.size=s.data.toList.length:=by rw[Array.length_toList];rfl
theorem Ll(nm ct:ByteArray)(ad:Int)(sv:Bool)(he:MV nm ct ad=0)(hn:nm.size<=Il)(hc:ct.size<=Il)(W:World) :
 Calls AS 21 #[Y nm,Y ct,U O ad,Ia sv] W λe w'=>Below W.heap.size W w'/\∃a2 uv ux a3 uy uz a4 uA uB a5 uC uD a6 uE uF,e=By (Ik #[Ij #[Y nm,Y ct,J a2 uv ux,J a3 uy uz,J a4 uA uB,J a5 uC uD,U O 0,U O 0,U O 0,U O 0,U O 1000,J a6 uE uF],U O 0])/\Hid (eS w' (Gm nm ct ad sv) (J a2 uv ux) (J a3 uy uz) (J a4 uA uB) (J a5 uC uD) (J a6 uE uF)):=by
 refine(su nm ct ad sv W hn hc).mono ?_;rintro e w' ⟨hb,⟨aM,_⟩|⟨_,aM,_⟩|⟨_,_,um,ur,us,ug,uw,rfl,ho,hk⟩⟩
 .exact absurd he aM
 .exact absurd rfl aM
 .have hI:=ho.is hk
  obtain⟨x2,y2,e2⟩:=aK ho.ms;obtain⟨x3,y3,e3⟩:=aK ho.rs;obtain⟨x4,y4,e4⟩:=aK ho.sv;obtain⟨x5,y5,e5⟩:=aK ho.gw;obtain⟨x6,y6,e6⟩:=aK ho.wh;subst e2 e3 e4 e5 e6;exact⟨hb,_,_,_,_,_,_,_,_,_,_,_,_,_,_,_,rfl,hI⟩
theorem afx{W:World}{b:Nat}{n m:Nd}{v1 v2 v3 v4 v5 u1 u2 u3 u4 u5:Value}(hb:W.heap[b]?=AI (AT (dt n v1 v2 v3 v4 v5++dt m u1 u2 u3 u4 u5) 42 (0,0)))(hn:eS W n v1 v2 v3 v4 v5)(hm:eS W m u1 u2 u3 u4 u5):xG W (J (AI ⟨b,0,be⟩) 2 2) [n,m]:=by
 refine⟨_,_,rfl,.inr ⟨b,0,rfl,(BY.1 hb).1,λj hj=>?_⟩⟩;have hj2:j<2:=hj;rcases Nat.lt_or_ge j 1 with h1|h1
 .have:j=0:=by omega
  subst this;refine⟨_,_,_,_,_,hn,λi hi=>(ae hb _).trans ?_⟩;rw[show 0+0*12+i=i by omega,Array.getElem?_append_left (show i<(dt n v1 v2 v3 v4 v5).size from hi)];rfl
 .have:j=1:=by omega
  subst this;refine⟨_,_,_,_,_,hm,λi hi=>(ae hb _).trans ?_⟩;rw[show 0+1*12+i=12+i by omega,Array.getElem?_append_right (show(dt n v1 v2 v3 v4 v5).size<=12+i from Nat.le_add_right _ _),show 12+i-(dt n v1 v2 v3 v4 v5).size=i from Nat.add_sub_cancel_left _ _];rfl
theorem fF.fa{C:Nat}{w w':World}{t:Nt}{un ul:Value}(h:fF C w t un ul)(hk:∀b,C<=b->b<w.heap.size->w'.heap[b]?=w.heap[b]?):fF C w' t un ul:=by
 obtain⟨nb,L,h1,h2,h3,h4⟩:=h;exact⟨nb,L,h1,h2,h3.fa hk,ee hk h4⟩
theorem vp(w:World)(hV:Rv w.heap.size w) :
 Calls AS 6 #[] w λe w'=>e=By (Ia true)/\Below w.heap.size w w':=by
 have HNA:=Ll ⟨#[97]⟩ ⟨#[99]⟩ 1 false aai (by decide) (by decide);have LC:=Ll ⟨#[98]⟩ ⟨#[99]⟩ 2 true aaj (by decide) (by decide);have aao:Hid _:=HNA;have aap:Hid _:=LC;clear HNA LC;have Su:Hid (∀W v,Below w.heap.size w W->xG W v [FN,FO]->Calls AS 22 #[v] W λe w'=>Below W.heap.size W w'/\∃a l c d m k,e=By (Ik #[Ij #[J a l c,J d m k],U O 0])/\Hid (gh w' ⟨[FN,FO],[]⟩ (J a l c) (J d m k))):=λW v hW hv=>by
  refine(tW [FN,FO] v W (hV.after hW) hv).mono ?_;rintro e w' ⟨hb,⟨_,a,l,c,d,m,k,nb,L,rfl,ho⟩|⟨aM,_⟩⟩
  .exact⟨hb,_,_,_,_,_,_,rfl,⟨ho.sl hv.ok,Lt.bD ho.ls (λm hm=>by cases hm)⟩⟩
  .exact absurd P8 aM
 have tv:Hid (∀W a l c d m k,Below w.heap.size w W->gh W ⟨[FN,FO],[]⟩ (J a l c) (J d m k)->Calls AS 19 #[Ij #[J a l c,J d m k],Ij #[U O 2,U O 0,U O 1,U O 0,Y ⟨#[]⟩,U O 0,U O 0,U O 0,U O 0,U O 0,Y ⟨#[]⟩,Y ⟨#[]⟩,Y ⟨#[]⟩,Y ⟨#[]⟩,U O 0,U O 0,Ia false,U O 0,Ia false]] W λe w'=>Below W.heap.size W w'/\∃a k c b l d,e=By (Ik #[Ij #[J a k c,J b l d],U O 0])/\Hid (fF W.heap.size w' ⟨[FN,FO],[⟨1,Ae.T⟩]⟩ (J a k c) (J b l d))):=λW a l c d m k hW h=>
  Cr ⟨[FN,FO],[]⟩ _ _ ev1 W 0 1 (hV.after hW) h ⟨P8,λl hl=>by cases hl⟩ rfl rfl (by simp) rfl (by simp) (by simp)
 have TY:Hid (∀W a l c d m k,Below w.heap.size w W->gh W ⟨[FN,FO],[⟨1,Ae.T⟩]⟩ (J a l c) (J d m k)->Calls AS 19 #[Ij #[J a l c,J d m k],Ij #[U O 3,U O 0,U O 0,U O 0,Y ⟨#[]⟩,U O 0,U O 0,U O 0,U O 0,U O 0,Y ⟨#[]⟩,Y ⟨#[]⟩,Y ⟨#[]⟩,Y ⟨#[]⟩,U O 0,U O 0,Ia false,U O 0,Ia false]] W λe w'=>Below W.heap.size W w'/\∃a k c b l d,e=By (Ik #[Ij #[J a k c,J b l d],U O 0])/\Hid (fF W.heap.size w' ⟨[FN,nbC],[]⟩ (J a k c) (J b l d))):=λW a l c d m k hW h=>
  FM ⟨[FN,FO],[⟨1,Ae.T⟩]⟩ _ _ ev2 W 0 1 Ae (hV.after hW) h ⟨aan,λl hl=>by rw[Jb.1 hl];show Ae.T.size<=16777216;rw[bsize];have:=Rb;omega⟩ rfl rfl (by simp) Ae.T rfl (by simp) Ra afw
 clear hV;go_enter Tryz.func6,Tryz.ntmps6;go_wp2_with fail;refine Ow (aao.out _) ?_;rintro e w1 ⟨aB,a2,uv,ux,a3,uy,uz,a4,uA,uB,a5,uC,uD,a6,uE,uF,rfl,Xp⟩;have aV:Hid _:=aB;clear aB aao;obtain⟨W1,cM⟩:∃W1,W1=w1.alloc (AT #[Y ⟨#[97]⟩,Y ⟨#[99]⟩,J a2 uv ux,J a3 uy uz,J a4 uA uB,J a5 uC uD,U O 0,U O 0,U O 0,U O 0,U O 1000,J a6 uE uF] 42):=⟨_,rfl⟩;have aB:Below w1.heap.size w1 W1:=by rw[cM];exact(Ib _ _).alloc (Ic _) _
 have Xq:Hid _:=Xp.out.below aB;have iN:Hid _:=aV.out.trans (aB.mono aV.out.size);have uS:Hid (W1.heap[w1.heap.size]?=AI (AT #[Y ⟨#[97]⟩,Y ⟨#[99]⟩,J a2 uv ux,J a3 uy uz,J a4 uA uB,J a5 uC uD,U O 0,U O 0,U O 0,U O 0,U O 1000,J a6 uE uF] 42 (0,0))):=by show _=_;rw[cM];exact Ih w1 _
 clear aB aV Xp;go_wp2_with fail;rw[<- cM];clear cM;refine Ow (aap.out _) ?_;rintro e w2 ⟨aJ,b2,bi2,bc2,b3,bi3,bc3,b4,bi4,bc4,b5,bi5,bc5,b6,bi6,bc6,rfl,VP⟩;have bp:Hid _:=iN.out.trans (aJ.mono iN.out.size);have Xr:Hid _:=Xq.out.below aJ;have wK:Hid _:=(aJ.block _ (BY.1 uS.out).1).trans uS.out;clear aJ aap Xq uS iN;obtain⟨W2,bF⟩:∃W2,W2=w2.alloc (AT #[Y ⟨#[98]⟩,Y ⟨#[99]⟩,J b2 bi2 bc2,J b3 bi3 bc3,J b4 bi4 bc4,J b5 bi5 bc5,U O 0,U O 0,U O 0,U O 0,U O 1000,J b6 bi6 bc6] 42):=⟨_,rfl⟩;have aJ:Below w2.heap.size w2 W2:=by rw[bF];exact(Ib _ _).alloc (Ic _) _
 have cK:=(aJ.block _ (BY.1 wK.out).1).trans wK.out;have dQ:W2.heap[w2.heap.size]?=AI (AT #[Y ⟨#[98]⟩,Y ⟨#[99]⟩,J b2 bi2 bc2,J b3 bi3 bc3,J b4 bi4 bc4,J b5 bi5 bc5,U O 0,U O 0,U O 0,U O 0,U O 1000,J b6 bi6 bc6] 42 (0,0)):=by rw[bF];exact Ih w2 _
 have Xt:Hid _:=Xr.out.below aJ;have TP:Hid _:=VP.out.below aJ;have oX:Hid _:=bp.out.trans (aJ.mono bp.out.size);obtain⟨p0,p1,p2,p3,p4,p5,p6,p7,p8,p9,p10,p11⟩:=bA cK;obtain⟨q0,q1,q2,q3,q4,q5,q6,q7,q8,q9,q10,q11⟩:=bA dQ;clear aJ cK dQ Xr VP bp wK;obtain⟨W3,ea,bV,-,ji⟩:=bW W2 #[Y ⟨#[97]⟩,Y ⟨#[99]⟩,J a2 uv ux,J a3 uy uz,J a4 uA uB,J a5 uC uD,U O 0,U O 0,U O 0,U O 0,U O 1000,J a6 uE uF,Y ⟨#[98]⟩,Y ⟨#[99]⟩,J b2 bi2 bc2,J b3 bi3 bc3,J b4 bi4 bc4,J b5 bi5 bc5,U O 0,U O 0,U O 0,U O 0,U O 1000,J b6 bi6 bc6] 42;have oY:Hid _:=oX.out.trans (bV.mono oX.out.size);have HNW:=Su.out W3 (J (AI ⟨W2.heap.size,0,be⟩) 2 2) oY.out (afx ji (Xt.out.below bV) (TP.out.below bV));clear bV ji Xt TP Su;go_upto_region 3 with fail
 rw[<- bF];clear bF;go_wp2_with fail;rw[<- ea];clear ea p0 q0 p1 q1 p2 q2 p3 q3 p4 q4 p5 q5 p6 q6 p7 q7 p8 q8 p9 q9 p10 q10 p11 q11;refine Ow HNW ?_;rintro e w4 ⟨eO,a,l,c,d,m,k,rfl,HN4⟩;have eP:Hid _:=oY.out.trans (eO.mono oY.out.size);clear eO HNW oY oX;obtain⟨W4,nQ,eO,-,Lm⟩:=bW w4 #[J a l c,J d m k] 27;have yP:Hid _:=eP.out.trans (eO.mono eP.out.size);have aar:=tv.out W4 a l c d m k yP.out (HN4.out.below eO);have x0:=ae Lm 0;have x1:=ae Lm 1;have LK:Hid _:=Lm;have Mh:Hid (w.heap.size<=w4.heap.size):=eP.out.size;clear eO Lm HN4 tv eP;go_upto_region 4 with fail
 rw[<- nQ];clear nQ;go_wp2_with fail;refine Ow aar ?_;rintro e w5 ⟨jB,a5_,l5_,c5_,d5_,m5_,k5_,rfl,Gk⟩;have mT:w5.heap[w4.heap.size]?=AI (AT #[J a l c,J d m k] 27 (0,0)):=(jB.block _ (BY.1 LK.out).1).trans LK.out;have gE:Hid _:=yP.out.trans (jB.mono yP.out.size);have Xa:=(BY.1 LK.out).1;obtain⟨W5,iZ⟩:∃W5,W5=aC w4.heap.size [J a5_ l5_ c5_,J d5_ m5_ k5_] 0 w5:=⟨_,rfl⟩;have Gs:W5.heap[w4.heap.size]?=AI (AT #[J a5_ l5_ c5_,J d5_ m5_ k5_] 27 (0,0)):=by rw[iZ];exact bC [J a5_ l5_ c5_,J d5_ m5_ k5_] [] [J a l c,J d m k] mT rfl
 have eo:∀q,q≠w4.heap.size->W5.heap[q]?=w5.heap[q]?:=λq hq=>by rw[iZ];exact aX hq _ _ _
 have xU:Hid (Below w.heap.size w W5):=by show Below _ _ _;rw[iZ];exact aQ Mh.out _ _ gE.out
 have hI5:=(Gk.out.fa (λq hq _=>eo q (by omega))).is (λl hl=>by rw[Jb] at hl;subst hl;show _<=_;rw[bsize];exact Iq Rb (by decide));have aas:=TY.out W5 _ _ _ _ _ _ xU.out hI5;have y0:=ae mT 0;have y1:=ae mT 1;have z0:=an mT 0;have z1:=an mT 1;have r0:=ae Gs 0;have r1:=ae Gs 1;have AP:Hid _:=Gs;simp only[aC,IC] at iZ;clear jB mT Gs eo Gk hI5 TY aar x0 x1 yP LK Xa gE;go_upto_region 5 with fail
 rw[<- iZ];clear iZ y0 y1 z0 z1;go_wp2_with fail;refine Ow aas ?_;rintro e w6 ⟨rR,a6_,l6_,c6_,d6_,m6_,k6_,rfl,HN6⟩;have Dl:=(rR.block _ (BY.1 AP.out).1).trans AP.out;have rK:Hid _:=xU.out.trans (rR.mono xU.out.size);have Tv:=(BY.1 AP.out).1;obtain⟨W6,uo⟩:∃W6,W6=aC w4.heap.size [J a6_ l6_ c6_,J d6_ m6_ k6_] 0 w6:=⟨_,rfl⟩;have hk6:W6.heap[w4.heap.size]?=AI (AT #[J a6_ l6_ c6_,J d6_ m6_ k6_] 27 (0,0)):=by rw[uo];exact bC [J a6_ l6_ c6_,J d6_ m6_ k6_] [] [J a5_ l5_ c5_,J d5_ m5_ k5_] Dl rfl
 have eo:∀q,q≠w4.heap.size->W6.heap[q]?=w6.heap[q]?:=λq hq=>by rw[uo];exact aX hq _ _ _
 have afM:Hid (Below w.heap.size w W6):=by show Below _ _ _;rw[uo];exact aQ Mh.out _ _ rK.out
 obtain⟨nb,L,SR,qe,hN,hls⟩:=HN6.out.fa (w':=W6) (λq hq _=>eo q (by omega));have hLl:L.length=2:=by have:=congrArg List.length qe;simpa using this
 rw[hLl] at SR;obtain⟨a7,c7,LB⟩:=aK hls;have hxn:(L.getD 1 bX).n=nbC:=tY qe (j:=1) (by omega);have hJ:=(hN.own _ (gi (j:=1) (by omega))).ms;rw[hxn] at hJ;obtain⟨a8,c8,nJ⟩:=aK hJ;rw[aak] at nJ;have fM:W6.cell? ⟨nb,14,be⟩=AI (J a8 2 c8):=by
  have h:=hN.cell (j:=1) (by omega) 2 (by omega);rw[<- nJ];exact h
 have y0:=ae Dl 0;have y1:=ae Dl 1;have z0:=an Dl 0;have z1:=an Dl 1;have s0:W6.cell? ⟨w4.heap.size,0,be⟩=AI (J (AI ⟨nb,0,be⟩) 2 2):=by rw[<- SR];exact ae hk6 0
 have s1:W6.cell? ⟨w4.heap.size,1,be⟩=AI (J a7 0 c7):=by have h:W6.cell? ⟨w4.heap.size,1,be⟩=AI (J d6_ m6_ k6_):=ae hk6 1;rw[LB] at h;exact h
 simp only[aC,IC] at uo;clear rR Dl hk6 eo HN6 aas r0 r1 xU AP Tv rK SR qe hN hls hLl LB hxn hJ nJ Mh;go_upto_region 6 with fail
 rw[<- uo];clear uo y0 y1 z0 z1;go_wp2_with fail;go_ret;exact⟨rfl,afM.out⟩
end Go.Proofs.YtfidhgjmifendaaGreatDoor
