import Derived.Test.YtfidjlcdlakceaaGreatDoorrt2
import Derived.Deep.RegionHeld3
set_option maxHeartbeats 1600000
set_option maxRecDepth 100000
open Go.Value renaming string→I,slice→U,int→O,func→I7,bool→AT,tuple→Il,agg→Ip,pointer→Ig
open Option renaming some→Z,none→Y
open Array renaming getElem?_eq_some_iff→Ib
open Go renaming maxLen→Ii,bodyPost→Ji,bodyPost_ret→Iy
open Go.Ending renaming returned→sh
open Go.IntKind renaming i64→J,wrap_i64→IN
open Go.Proofs.Tryz renaming prog→be,underlying9→Iv,underlying127→JK,underlying5→Jm
open Go.RowKit.Below renaming refl→Ia
open Nat renaming le_refl→By
open Go.Lib renaming bytesWorld→Ob,run_convert_string_bytes→O9
namespace Go.Proofs.YtfidjlcdlakceaaGreatDoor
open Go.RowKit
theorem Tryz.wu:(Tryz.prog.info? 9).map (λi=>(i.zero,i.size,i.bytes))=Z (Z (I ⟨#[]⟩),1,16):=by kernel_rfl
abbrev df(base:Nat)(w:World)(v:Value)(l:List ByteArray):Prop:=w.ownsRow base 9 1 v l.length (l.map I)
theorem o0(base:Nat)(w:World):df base w (U Y 0 0) []:=World.ownsRow_nil w base 9 1
theorem df.below{base:Nat}{w w':World}{v:Value}{l:List ByteArray}(h:df base w v l)(hb:Below w.heap.size w w'):df base w' v l:=by
 rcases h.2 with⟨rfl,h0⟩|⟨g,c,cur,rfl,dN,hg,fa,dO,cJ,aV⟩
 .exact⟨h.1,.inl ⟨rfl,h0⟩⟩
 .have aB:g<w.heap.size:=(Ib.1 hg).1
  exact⟨h.1,.inr ⟨g,c,cur,rfl,dN,(hb.block g aB).trans hg,fa,dO,cJ,aV⟩⟩
theorem df.lt{base:Nat}{w:World}{v:Value}{l:List ByteArray}(h:df base w v l)(k:Nat)(hk:v.ownBlock=Z k):base<=k/\k<w.heap.size:=World.ownsRow.lt h k hk
theorem mY{base:Nat}{w:World}{v:Value}{l:List ByteArray}{s:ByteArray}(h:w.ownsRow base 9 1 v (l.length+1) (l.map I++[I s])):df base w v (l++[s]):=by
 show w.ownsRow base 9 1 v (l++[s]).length ((l++[s]).map I);rw[List.length_append,List.map_append];exact h
theorem nS(ss:List ByteArray):∀v∈ss.map I,v.oneCell'=true:=by
 intro v hv;obtain⟨s,_,rfl⟩:=List.mem_map.1 hv;rfl
theorem df.form{base:Nat}{w:World}{v:Value}{l:List ByteArray}(h:df base w v l):(v=U Y 0 0/\l=[])\/∃g c,v=U (Z ⟨g,0,Y⟩) l.length c/\l.length<=c/\base<=g/\g<w.heap.size/\∀j,j<l.length->w.cell? ⟨g,j,Y⟩=Z (I (l.getD j ByteArray.empty)):=by
 rcases h.2 with⟨hv,h0⟩|⟨g,c,cur,hv,dN,hg,fa,_⟩
 .exact .inl ⟨hv,List.length_eq_zero_iff.1 h0⟩
 .refine .inr ⟨g,c,hv,fa,dN,(Ib.1 hg).1,λj hj=>?_⟩
  subst hv;rw[World.ownsRow.cellAt h j (by omega)];simp[List.getD,List.getElem?_eq_getElem hj]
theorem gr{s:ByteArray}(h:s.size≠0):(s.toList==[])=false/\¬ s.toList=[]:=by
 have h3:¬ s.toList=[]:=λe=>h (by
  rw[Lib.toList_data] at e
  have:s.data.toList.length=0:=by rw[e];rfl
  simpa using this)
 exact⟨by simpa using h3,h3⟩
theorem cx{s:ByteArray}(h:s.size=0):s=⟨#[]⟩:=by
 cases s with
 |mk a=>simp[ByteArray.size] at h;subst h;rfl
theorem il(s:ByteArray)(w:World)(hs:s.size<=Ii) :
 Calls be 25 #[I s] w λe w'=>e=sh (O J (bQ s))/\Below w.heap.size w w':=by
 by_cases h0:s.size=0
 .have e0:bQ s=0:=by unfold bQ;rw[if_pos h0]
  rw[e0];have:=cx h0;subst this;clear e0 h0 hs;go_enter Tryz.func25,Tryz.ntmps25;go_wp2_with fail;go_ret;exact⟨rfl,Ia _ _⟩
 .obtain⟨n1,n2⟩:=gr h0
  have HL:Hid (∀W,Calls be 66 #[I s,I7 (.func 64) #[] #[]] W λe w'=>e=sh (AT (!(gH s.data.toList).all ju))/\Below W.heap.size W w'):=λW=>wk s W hs;have HE:Hid (bQ s=if(gH s.data.toList).all ju=false then 1 else if 8<(gH s.data.toList).length\/120<s.size then 2 else 0):=(show bQ s=_ by unfold bQ;rw[if_neg h0]);have hlen:=wi s.data.toList;unfold Ii at hs;clear h0;generalize bQ s=r at *;cases cX:(gH s.data.toList).all ju with
  |false=>
   have HR:Hid (r=1):=(show r=1 by rw[HE.out,if_pos cX]);rw[cX] at HL;clear HE;go_enter Tryz.func25,Tryz.ntmps25;go_wp2_with (go_at_call 66;refine(HL.out _).mono ?_;rintro e w1 ⟨rfl,an⟩);go_ret;exact⟨aj HR.out.symm,an⟩
  |true=>
   rw[cX] at HL;have iV:Hid (r=if 8<s.data.toList.count 46+1\/120<s.size then 2 else 0):=(show r=_ by rw[HE.out,cX,hlen];rfl);have MY:s.data.toList.count 46<=s.size:=by have:=List.count_le_length (a:=(46:UInt8)) (l:=s.data.toList);simpa using this
   clear HE hlen cX;have R0:Hid (∀W,Calls be 67 #[I s,I ⟨#[46]⟩] W λe w'=>e=sh (O J ((s.data.toList.count 46:Nat):Int))/\w'=W):=λW=>Tryz.strings_Count_one s 46 W;generalize s.data.toList.count 46=cn at *;by_cases h1:8<=cn
   .have HR:Hid (r=2):=(show r=2 by rw[iV.out,if_pos (.inl (by omega))])
    clear iV;have h2:decide (8<=(cn:Int))=true:=by simp;omega
    go_enter Tryz.func25,Tryz.ntmps25;go_wp2_with (first|(go_at_call 66;refine(HL.out _).mono ?_;rintro e w1 ⟨rfl,an⟩)|(go_at_call 67;refine(R0.out _).mono ?_;rintro e w2 ⟨rfl,rfl⟩));go_ret;exact⟨aj HR.out.symm,an⟩
   .have h2:decide (8<=(cn:Int))=false:=by simp;omega
    by_cases h3:120<s.size
    .have HR:Hid (r=2):=(show r=2 by rw[iV.out,if_pos (.inr h3)])
     clear iV;have h4:decide (120<(s.size:Int))=true:=by simp;omega
     go_enter Tryz.func25,Tryz.ntmps25;go_wp2_with (first|(go_at_call 66;refine(HL.out _).mono ?_;rintro e w1 ⟨rfl,an⟩)|(go_at_call 67;refine(R0.out _).mono ?_;rintro e w2 ⟨rfl,rfl⟩));go_ret;exact⟨aj HR.out.symm,an⟩
    .have HR:Hid (r=0):=(show r=0 by rw[iV.out,if_neg (by omega)])
     clear iV;have h4:decide (120<(s.size:Int))=false:=by simp;omega
     go_enter Tryz.func25,Tryz.ntmps25;go_wp2_with (first|(go_at_call 66;refine(HL.out _).mono ?_;rintro e w1 ⟨rfl,an⟩)|(go_at_call 67;refine(R0.out _).mono ?_;rintro e w2 ⟨rfl,rfl⟩));go_ret;exact⟨aj HR.out.symm,an⟩
def fY(s:ByteArray):List ByteArray:=if s.size=0 then[] else(gH s.data.toList).map mk
theorem uV(s:ByteArray):bQ s=if(fY s).all aA=false then 1 else if 8<(fY s).length\/120<s.size then 2 else 0:=by
 unfold bQ fY;by_cases h0:s.size=0
 .rw[if_pos h0,if_pos h0];simp[h0]
 .rw[if_neg h0,if_neg h0]
  have e:((gH s.data.toList).map mk).all aA=(gH s.data.toList).all ju:=by rw[List.all_map];rfl
  rw[e,List.length_map]
theorem bZ(e:Int)(w:World) :
 Calls be 69 #[AT true,O J e] w λx w'=>x=sh (Il #[])/\w'=w:=by
 go_enter Tryz.func69,Tryz.ntmps69;go_wp2_with fail;simp[Ji,results,Tryz.results69]
theorem cQ(e:Int)(w:World) :
 Calls be 69 #[AT false,O J e] w λx w'=>x=.panicked [{ v:=.iface 120 (Ip #[O J e]),recovered:=false }]/\w'=w:=by
 go_enter Tryz.func69,Tryz.ntmps69;go_wp2_with fail;exact⟨rfl,rfl,rfl⟩
theorem xQ(g:Nat)(x e:Int)(R6:List PanicEntry)(w:World)(hg:g<w.heap.size)(hc:w.cell? ⟨g,0,Y⟩=Z (O J x))(hz:w.frozen? ⟨g,0,Y⟩=false) :
 CallsD be 68 #[Ig (Z ⟨g,0,Y⟩)] (.panicking ({ v:=.iface 120 (Ip #[O J e]),recovered:=false } :: R6)) w λr u' w'=>
  r=sh (Il #[])/\u'=.panicking ({ v:=.iface 120 (Ip #[O J e]),recovered:=true } :: R6)/\w'.cell? ⟨g,0,Y⟩=Z (O J e)/\Below g w w':=by
 have e0:g≠w.heap.size:=by omega
 have hta:∀W:World,Sem.run be (Instr.typeAssert (.iface 120 (Ip #[O J e])) 20 120 true) W=.ok (Il #[Ip #[O J e],AT true]) W:=λ_=>by kernel_rfl
 have gi:(w.setCell ⟨g,0,Y⟩ (O J 1)).cell? ⟨g,0,Y⟩=Z (O J 1):=by simp[go_sem,hc]
 have nP:((w.setCell ⟨g,0,Y⟩ (O J 1)).setCell ⟨g,0,Y⟩ (O J e)).cell? ⟨g,0,Y⟩=Z (O J e):=by simp[go_sem,hc]
 have HE:Hid (∀o,(((w.setCell ⟨g,0,Y⟩ (O J 1)).setCell ⟨g,0,Y⟩ (O J e)).alloc o).cell? ⟨g,0,Y⟩=Z (O J e)):=λo=>by
  rw[World.cell?_alloc_past (w:=(w.setCell ⟨g,0,Y⟩ (O J 1)).setCell ⟨g,0,Y⟩ (O J e)) o g 0 (by simpa using hg)];exact nP
 have HB:Hid (∀o,Below g w (((w.setCell ⟨g,0,Y⟩ (O J 1)).setCell ⟨g,0,Y⟩ (O J e)).alloc o)):=λo=>
  (((Ia g w).setCell (p:=⟨g,0,Y⟩) (By _) _).setCell (p:=⟨g,0,Y⟩) (By _) _).alloc (by simp;omega) _
 clear gi nP;refine callsD_of_wpS Tryz.func68 rfl λc₀ cs hu=>?_;apply wpS_seq;apply wpS_region;simp[wpOpsS,go_sem,recoverD,hu,Tryz.ntmps68,Exit.thenS,Array.replicate];refine wpS_of_wp ?_;go_wp2_with fail;have h1:=HE.out (.cells #[O J e] 120);have h2:=HB.out (.cells #[O J e] 120);cases c₀
 simp[bodyPostS,results,Tryz.results68];exact⟨h1,h2⟩
theorem Az(p:Addr)(w:World) :
 CallsD be 68 #[Ig (Z p)] .returning w λe u' w'=>e=sh (Il #[])/\u'=.returning/\w'=w:=by
 refine callsD_of_wpS Tryz.func68 rfl λc₀ cs hu=>?_;apply wpS_seq;apply wpS_region;simp[wpOpsS,go_sem,recoverD,hu,Tryz.ntmps68,Exit.thenS,Array.replicate];refine wpS_of_wp ?_;go_wp2_with fail;cases c₀
 simp_all [bodyPostS,results,Tryz.results68]
theorem j5(f:Nat)(qM:Array Value)(w:World)(R:World->Prop)(ef:∀args W,(callFunc f args).run be W=.ok (.enter f args) W)(hw:Calls be f qM (w.alloc (.cells #[O J 0] 34)) λr w'=>r=sh (Il #[])/\R w'/\w'.cell? ⟨w.heap.size,0,Y⟩=Z (O J 0)/\w'.frozen? ⟨w.heap.size,0,Y⟩=false/\w.heap.size<w'.heap.size) :
 Calls be 26 #[I7 (.func f) #[] qM] w λr w'=>r=sh (O J 0)/\∃w1,R w1/\w.heap.size<w1.heap.size/\w'=w1.setCell ⟨w.heap.size,0,Y⟩ (O J 0):=by
 have hmf:∀(fn:Fn) (first cap:Array Value) (w:World),(Instr.makeFunc fn first cap).run be w=.ok (I7 fn first cap) w:=λ_ _ _ _=>rfl;have HW:Hid (Calls be f qM (w.alloc (.cells #[O J 0] 34)) λr w'=>r=sh (Il #[])/\Hid (R w')/\w'.cell? ⟨w.heap.size,0,Y⟩=Z (O J 0)/\w'.frozen? ⟨w.heap.size,0,Y⟩=false/\w.heap.size<w'.heap.size):=hw;clear hw;go_enter_defers Tryz.func26,Tryz.ntmps26
 go_wp2_with fail;refine HW.out.mono ?_;rintro e w1 ⟨rfl,HR,h1,h2,h3⟩;go_wp2_with fail;refine leaves_cons (f:=68) (args:=#[Ig (Z ⟨w.heap.size,0,Y⟩)]) (by simp) (by simp[go_sem]) ?_;refine(Az ⟨w.heap.size,0,Y⟩ _).mono ?_;rintro e u' kE ⟨rfl,rfl,rfl⟩;simp[Leaves,settle,results,Tryz.results26,go_sem,h1];exact⟨w1,HR.out,h3,rfl⟩
theorem so(f:Nat)(qM:Array Value)(e:Int)(w:World)(R:World->Prop)(ef:∀args W,(callFunc f args).run be W=.ok (.enter f args) W)(hw:Calls be f qM (w.alloc (.cells #[O J 0] 34)) λr w'=>r=.panicked [{ v:=.iface 120 (Ip #[O J e]),recovered:=false }]/\R w'/\w'.cell? ⟨w.heap.size,0,Y⟩=Z (O J 0)/\w'.frozen? ⟨w.heap.size,0,Y⟩=false/\w.heap.size<w'.heap.size) :
 Calls be 26 #[I7 (.func f) #[] qM] w λr w'=>r=sh (O J e)/\∃w1,R w1/\w.heap.size<w1.heap.size/\Below w.heap.size w1 w':=by
 have hmf:∀(fn:Fn) (first cap:Array Value) (w:World),(Instr.makeFunc fn first cap).run be w=.ok (I7 fn first cap) w:=λ_ _ _ _=>rfl;have HW:Hid (Calls be f qM (w.alloc (.cells #[O J 0] 34)) λr w'=>r=.panicked [{ v:=.iface 120 (Ip #[O J e]),recovered:=false }]/\Hid (R w')/\w'.cell? ⟨w.heap.size,0,Y⟩=Z (O J 0)/\w'.frozen? ⟨w.heap.size,0,Y⟩=false/\w.heap.size<w'.heap.size):=hw;clear hw;go_enter_defers Tryz.func26,Tryz.ntmps26
 go_wp2_with fail;refine HW.out.mono ?_;rintro r w1 ⟨rfl,HR,h1,h2,h3⟩;refine leaves_cons (f:=68) (args:=#[Ig (Z ⟨w.heap.size,0,Y⟩)]) (by simp) (by simp[go_sem]) ?_;refine(xQ w.heap.size 0 e [] w1 h3 h1 h2).mono ?_;rintro r u' kE ⟨rfl,rfl,h4,h5⟩;simp[Leaves,settle,results,Tryz.results26,go_sem,h4];exact⟨w1,HR.out,h3,h5⟩
theorem nT(s:ByteArray)(w:World)(hs:s.size<=Ii)(h:bQ s=0) :
 Calls be 71 #[I s] w λr w'=>r=sh (Il #[])/\Below w.heap.size w w':=by
 have HC:Hid (Calls be 25 #[I s] w λe w'=>e=sh (O J 0)/\Below w.heap.size w w'):=(show Calls _ _ _ _ _ by have h2:=il s w hs;rwa [h] at h2);go_enter Tryz.func71,Tryz.ntmps71;go_wp2_with fail;refine HC.out.mono ?_;rintro e w1 ⟨rfl,an⟩;go_wp2_with (go_at_call 69;refine(bZ _ _).mono ?_;rintro e w2 ⟨rfl,rfl⟩);simp[Ji,results,Tryz.results71];exact an
theorem o5(n:Int)(w:World) :
 Calls be 72 #[O J n] w λe w'=>e=sh (AT (decide (n=1)||decide (n=16)||decide (n=33)))/\w'=w:=by
 go_enter Tryz.func72,Tryz.ntmps72;go_wp2;all_goals
  go_ret;exact⟨az (by rw[Bool.eq_iff_iff];simp;try omega),rfl⟩
theorem pZ(id code al:Int)(ay cut:Bool)(name:ByteArray)(w:World)(h1:within id 0 65535=true)(h2:within code 0 15=true)(hs:name.size<=Ii)(hn:bQ name=0)(ht:(decide (al=1)||decide (al=16)||decide (al=33))=true) :
 Calls be 28 #[Ip #[O J id,AT ay,AT cut,O J code,I name,O J al,U Y 0 0]] w λr w'=>r=sh (Il #[])/\Below w.heap.size w w':=by
 go_enter Tryz.func28,Tryz.ntmps28;go_wp2_with fail;refine(bw _ _ _ _).mono ?_;rintro e w' ⟨rfl,rfl⟩;rw[h1];go_wp2_with fail;refine(bw _ _ _ _).mono ?_;rintro e w' ⟨rfl,rfl⟩;rw[h2];go_wp2_with fail;refine(bZ _ _).mono ?_;rintro e w' ⟨rfl,rfl⟩;go_wp2_with fail;refine(bZ _ _).mono ?_;rintro e w' ⟨rfl,rfl⟩;go_wp2_with fail;refine(nT name _ hs hn).mono ?_;rintro e w1 ⟨rfl,an⟩;have hg:w1.heap[w.heap.size]?=Z (.cells #[O J id,AT ay,AT cut,O J code,I name,O J al,U Y 0 0] 43 (0,0)):=(an.block _ (by simp)).trans (heap_alloc_new w _);have f5:w1.cell? ⟨w.heap.size,5,Y⟩=Z (O J al):=af hg 5;have f6:w1.cell? ⟨w.heap.size,6,Y⟩=Z (U Y 0 0):=af hg 6;have aK:Hid (Below w.heap.size w w1):=((Ia _ _).alloc (By _) _).trans (an.mono (by simp));clear an hg;go_wp2_with fail;refine(o5 _ _).mono ?_;rintro e w' ⟨rfl,rfl⟩;rw[ht];go_wp2_with fail;refine(bZ _ _).mono ?_;rintro e w' ⟨rfl,rfl⟩;go_wp2_with fail;go_loopw [30] (λi wr=>i=O J 0/\Hid (Below w.heap.size w wr)) (λ_ _=>0)
 case atStart=>exact⟨rfl,aK⟩
 case round=>
  obtain⟨rfl,xR⟩:=hrel;go_wp2_with fail;simp[Ji,results,Tryz.results28];exact xR.out
def dC(e:Int):Ending:=if e=0 then sh (Il #[]) else .panicked [{ v:=.iface 120 (Ip #[O J e]),recovered:=false }]
theorem mZ:dC 0=sh (Il #[]):=rfl
theorem dH{e:Int}(h:e≠0):dC e=.panicked [{ v:=.iface 120 (Ip #[O J e]),recovered:=false }]:=if_neg h
theorem jx(s:ByteArray)(w:World)(hs:s.size<=Ii) :
 Calls be 71 #[I s] w λr w'=>r=dC (bQ s)/\Below w.heap.size w w':=by
 by_cases h:bQ s=0
 .rw[h]
  exact nT s w hs h
 .have HC:Hid (Calls be 25 #[I s] w λe w'=>e=sh (O J (bQ s))/\Below w.heap.size w w'):=il s w hs
  rw[dH h];generalize bQ s=E at *;have h2:(E==0)=false:=by simpa using h
  go_enter Tryz.func71,Tryz.ntmps71;go_wp2_with fail;refine HC.out.mono ?_;rintro e w1 ⟨rfl,an⟩;have aK:Hid (Below w.heap.size w w1):=an;clear an;go_wp2_with fail;refine(cQ _ _).mono ?_;rintro e w2 ⟨rfl,rfl⟩;exact⟨rfl,rfl,aK.out⟩
def gZ(n:Int):Bool:=decide (n=1)||decide (n=16)||decide (n=33)
def iE(r:Rc.Rec):Rc.Rec:=if r.al=1 then⟨r.name,r.al,r.aE,r.addr,⟨#[]⟩,0,⟨#[]⟩⟩ else if r.al=16 then⟨r.name,r.al,r.aE,0,r.text,0,⟨#[]⟩⟩ else if r.al=33 then⟨r.name,r.al,r.aE,0,⟨#[]⟩,r.port,r.target⟩ else⟨r.name,r.al,r.aE,0,⟨#[]⟩,0,⟨#[]⟩⟩
abbrev ln(r:Rc.Rec):Value:=Ip #[I r.name,O J r.al,O J r.aE,O J r.addr,I r.text,O J r.port,I r.target]
theorem uk(r:Rc.Rec)(w:World) :
 Calls be 123 #[ln r] w λe w'=>e=sh (ln (iE r))/\Below w.heap.size w w':=by
 obtain⟨name,al,aE,addr,text,port,target⟩:=r;unfold iE;simp only;by_cases h1:al=1
 .subst h1
  go_enter Tryz.func123,Tryz.ntmps123;go_wp2_with fail;refine Iy (v:=Ip #[I name,O J 1,O J aE,O J addr,I ⟨#[]⟩,O J 0,I ⟨#[]⟩]) ?_ rfl ⟨rfl,?_⟩
  .simp[results,Tryz.results123,go_sem]
  .first|exact(((Ia _ _).alloc (By _) _).alloc (by simp) _).alloc (by simp;omega) _|exact((((Ia _ _).alloc (By _) _).alloc (by simp) _).alloc (by simp;omega) _).drew
 rw[if_neg h1];have e1:(al==1)=false:=by simpa using h1
 by_cases h2:al=16
 .subst h2
  clear e1;go_enter Tryz.func123,Tryz.ntmps123;go_wp2_with fail;refine Iy (v:=Ip #[I name,O J 16,O J aE,O J 0,I text,O J 0,I ⟨#[]⟩]) ?_ rfl ⟨rfl,?_⟩
  .simp[results,Tryz.results123,go_sem]
  .first|exact(((Ia _ _).alloc (By _) _).alloc (by simp) _).alloc (by simp;omega) _|exact((((Ia _ _).alloc (By _) _).alloc (by simp) _).alloc (by simp;omega) _).drew
 rw[if_neg h2];have e2:(al==16)=false:=by simpa using h2
 by_cases h3:al=33
 .subst h3
  clear e1 e2;go_enter Tryz.func123,Tryz.ntmps123;go_wp2_with fail;go_region
  go_wp2_with fail;refine Iy (v:=Ip #[I name,O J 33,O J aE,O J 0,I ⟨#[]⟩,O J port,I target]) ?_ rfl ⟨rfl,?_⟩
  .simp[results,Tryz.results123,go_sem]
  .first|exact(((Ia _ _).alloc (By _) _).alloc (by simp) _).alloc (by simp;omega) _|exact((((Ia _ _).alloc (By _) _).alloc (by simp) _).alloc (by simp;omega) _).drew
 rw[if_neg h3];have e3:(al==33)=false:=by simpa using h3
 .clear h1 h2 h3
  go_enter Tryz.func123,Tryz.ntmps123;go_wp2_with fail;refine Iy (v:=Ip #[I name,O J al,O J aE,O J 0,I ⟨#[]⟩,O J 0,I ⟨#[]⟩]) ?_ rfl ⟨rfl,?_⟩
  .simp[results,Tryz.results123,go_sem]
  .first|exact(((Ia _ _).alloc (By _) _).alloc (by simp) _).alloc (by simp;omega) _|exact((((Ia _ _).alloc (By _) _).alloc (by simp) _).alloc (by simp;omega) _).drew
theorem Ct(g a n:Nat)(t:ByteArray)(w:World)(c0:w.cell? ⟨g,0,Y⟩=Z (I t))(c1:w.cell? ⟨g,1,Y⟩=Z (O J a))(hz:w.frozen? ⟨g,1,Y⟩=false)(hs:t.size<=1000)(kN:a+n<=t.size) :
 Calls be 152 #[Ig (Z ⟨g,0,Y⟩),O J n] w λe w'=>e=sh (I (t.extract a (a+n)))/\∃m,w'=(w.setCell ⟨g,1,Y⟩ (O J ((a:Int)+(n:Int)))).drew.drewN m:=by
 have h1:IntKind.i64.wrap ((t.size:Int)-(a:Int))=(t.size:Int)-(a:Int):=by rw[IN];omega
 have h2:decide ((n:Int)<=(t.size:Int)-(a:Int))=true:=by simp;omega
 have h3:IntKind.i64.wrap ((a:Int)+(n:Int))=((a+n:Nat):Int):=by rw[IN];omega
 have h4:IntKind.i64.wrap (((a+n:Nat):Int)-(n:Int))=(a:Int):=by rw[IN];omega
 go_enter Tryz.func152,Tryz.ntmps152;go_wp2_with fail;go_region_held3 (λw'=>w'.cell? ⟨g,0,Y⟩=Z (I t)/\w'.cell? ⟨g,1,Y⟩=Z (O J a)) (go_keep) (first|(go_at_call 69;refine(bZ _ _).mono ?_;rintro e w5 ⟨rfl,rfl⟩)|fail)
 go_wp2_with fail;have eP:(0:Int)<=(a:Int):=by omega
 have TN:(a:Int)<=((a+n:Nat):Int):=by omega
 have Ea:((a+n:Nat):Int)<=(t.size:Int):=by omega
 have hi3:((a:Int)).toNat=a:=by omega
 have hi4:(((a+n:Nat):Int)).toNat=a+n:=by omega
 go_quiet (fail)
 go_wp2_with fail;go_ret;exact⟨rfl,_,rfl⟩
theorem NH(g a:Nat)(t:ByteArray)(w:World)(c0:w.cell? ⟨g,0,Y⟩=Z (I t))(c1:w.cell? ⟨g,1,Y⟩=Z (O J a))(ha:a<t.size) :
 Calls be 153 #[Ig (Z ⟨g,0,Y⟩)] w λe w'=>e=sh (O .u8 (t[a].toNat:Int))/\∃m,w'=w.drew.drewN m:=by
 have h2:decide ((a:Int)<(t.size:Int))=true:=by simp;omega
 have eP:(0:Int)<=(a:Int):=by omega
 have TN:(a:Int)<(t.size:Int):=by omega
 have hi3:((a:Int)).toNat=a:=by omega
 go_enter Tryz.func153,Tryz.ntmps153;go_wp2_with fail;go_region_held3 (λw'=>w'.cell? ⟨g,0,Y⟩=Z (I t)/\w'.cell? ⟨g,1,Y⟩=Z (O J a)) (go_keep) (first|(go_at_call 69;refine(bZ _ _).mono ?_;rintro e w5 ⟨rfl,rfl⟩)|fail)
 go_wp2_with fail;go_quiet (fail)
 go_wp2_with fail;go_ret;exact⟨rfl,_,rfl⟩
def au(t:ByteArray)(a:Nat):Nat->Nat
 |0=>0
 |k+1=>au t a k*256+(t.data[a+k]?.getD 0).toNat
theorem rE(t:ByteArray)(a:Nat):∀k,au t a k<256^k
 |0=>by simp[au]
 |k+1=>by
  have h:=rE t a k;have h2:=(t.data[a+k]?.getD 0).toNat_lt;simp only[au,Nat.pow_succ];omega
theorem NI(x b:Nat)(hx:x<4294967296)(hb:b<256):bits .or J ((x:Int)*256) (wrap64 (b:Int))=((x*256+b:Nat):Int):=by
 have h1:((x:Int)*256)=((x*256:Nat):Int):=by omega
 have h2:wrap64 (b:Int)=(b:Int):=by unfold wrap64;omega
 have h3:x*256 ||| b=x*256+b:=by
  rw[show x*256=2^8*x by omega,<- Nat.two_pow_add_eq_or_of_lt (i:=8) hb]
 rw[h1,h2];show IntKind.i64.wrap (((BitVec.ofInt 64 ((x*256:Nat):Int)) ||| (BitVec.ofInt 64 (b:Int))).toNat:Int)=_;rw[BitVec.toNat_or,BitVec.ofInt_natCast,BitVec.ofInt_natCast,BitVec.toNat_ofNat,BitVec.toNat_ofNat,Nat.mod_eq_of_lt (by omega),Nat.mod_eq_of_lt (by omega),h3,IN];omega
theorem nf(w:World)(s:ByteArray):w.drew.alloc (.cells (bytesRow s (grownCap w s.size 0 5)) 5 ((bytesRow s (grownCap w s.size 0 5)).size,(bytesRow s (grownCap w s.size 0 5)).size+1))=Ob w 5 s:=by
 have h1:=O9 (P:=be) w 9 127 5 s (u:=.string) Iv JK Jm;have h2:=run_bytes_of_string (P:=be) w 9 127 5 s Iv JK Jm;rw[h1] at h2;injection h2 with _ h;exact h.symm
theorem nh(g a n:Nat)(t:ByteArray)(w:World)(c0:w.cell? ⟨g,0,Y⟩=Z (I t))(c1:w.cell? ⟨g,1,Y⟩=Z (O J a))(hz:w.frozen? ⟨g,1,Y⟩=false)(hs:t.size<=1000)(kN:a+n<=t.size)(hn:n<=4) :
 Calls be 99 #[Ig (Z ⟨g,0,Y⟩),O J n] w λe w'=>e=sh (O J (au t a n))/\(w.setCell ⟨g,1,Y⟩ (O J ((a:Int)+(n:Int)))).Extends w':=by
 have HT:Hid (Calls be 152 #[Ig (Z ⟨g,0,Y⟩),O J n] w λe w'=>e=sh (I (t.extract a (a+n)))/\∃m,w'=(w.setCell ⟨g,1,Y⟩ (O J ((a:Int)+(n:Int)))).drew.drewN m):=Ct g a n t w c0 c1 hz hs kN;have bb:(t.extract a (a+n)).size=n:=by simp;omega
 have XP:=λw s=>O9 (P:=be) w 9 127 5 s (u:=.string) Iv JK Jm;have hB:=λw j hj=>Lib.bytesWorld_cell w 5 (t.extract a (a+n)) j hj;go_enter Tryz.func99,Tryz.ntmps99;go_wp2_with fail;refine HT.out.mono ?_;rintro e w1 ⟨rfl,m,rfl⟩;go_wp2_with fail;obtain⟨W0,eu⟩:∃W0,W0=(w.setCell ⟨g,1,Y⟩ (O J ((a:Int)+(n:Int)))).drewN (1+m):=⟨_,rfl⟩;rw[<- eu];have R8:∀j,j<n->(Ob W0 5 (t.extract a (a+n))).cell? ⟨W0.heap.size,j,Y⟩=Z (O .u8 ((t.extract a (a+n)).data.toList.getD j 0).toNat):=λj hj=>hB W0 j (by omega);have hX:W0.Extends (Ob W0 5 (t.extract a (a+n))):=by
  rw[<- nf W0 (t.extract a (a+n))];exact(World.Extends.refl W0).drew.alloc _
 have hX0:(w.setCell ⟨g,1,Y⟩ (O J ((a:Int)+(n:Int)))).Extends W0:=by
  subst eu;generalize 1+m=q;exact⟨rfl,rfl,rfl,By _,λ_ _=>rfl,λ_ _=>rfl,λ_ _=>rfl⟩
 have hXX:=hX0.trans hX;obtain⟨W1,gA⟩:∃W1,W1=Ob W0 5 (t.extract a (a+n)):=⟨_,rfl⟩;have pY:W0.heap.size=w.heap.size:=by rw[eu];simp
 rw[pY] at R8;rw[<- gA] at R8 hXX ⊢;clear hB XP hX hX0 gA eu;go_loop [5,13] (λvn vi=>∃(k:Nat) (x:Nat),vn=O J x/\vi=O J k/\k<=n/\Hid (x=au t a k))
  (λ_ vi=>n-(intOf vi).toNat)
 case atStart=>exact⟨0,0,rfl,rfl,by omega,rfl⟩
 case round=>
  obtain⟨k,x,rfl,rfl,hk,hx⟩:=hrel;by_cases gj:k<n
  .have hc:decide ((k:Int)<(n:Int))=true:=by simp;omega
   have bj:=R8 k gj;have eP:(0:Int)<=(k:Int):=by omega
   have TN:(k:Int)<(n:Int):=by omega
   have Ea:((k:Int)).toNat=k:=by omega
   have hxl:x<4294967296:=by
    have h:=rE t a k;have h3:(256:Nat)^k<=256^3:=Nat.pow_le_pow_right (by omega) (by omega);rw[<- hx.out] at h;omega
   have xq:=NI x (t.data[a+k]?.getD 0).toNat hxl (UInt8.toNat_lt _);have hH:Hid (x*256+(t.data[a+k]?.getD 0).toNat=au t a (k+1)):=by
    show _=_;rw[hx.out];rfl
   go_wp2_with fail;refine⟨⟨k+1,_,by simp,by simp,by omega,hH⟩,by simp[intOf];omega⟩
  .have hc:decide ((k:Int)<(n:Int))=false:=by simp;omega
   have NJ:k=n:=by omega
   have hH:Hid (x=au t a n):=by rw[<- NJ];exact hx
   go_wp2_with fail;simp[Ji,results,Tryz.results99];exact⟨by rw[hH.out],hXX⟩
structure dA(g:Nat)(t:ByteArray)(a:Nat)(w:World):Prop where
 c0:w.cell? ⟨g,0,Y⟩=Z (I t)
 c1:w.cell? ⟨g,1,Y⟩=Z (O J a)
 hz:w.frozen? ⟨g,1,Y⟩=false
 hg:g<w.heap.size
theorem dA.move{g a b:Nat}{t:ByteArray}{w w':World}(h:dA g t a w)(hx:(w.setCell ⟨g,1,Y⟩ (O J (b:Int))).Extends w'):dA g t b w' where
 c0:=by
  refine hx.cell_of ?_;have:=h.c0;exact(World.cell?_setCell_other _ _ _ _ (by simp)).trans this
 c1:=hx.cell_of (World.cell?_setCell_same _ _ _ h.c1)
 hz:=by rw[hx.frozen _ (by simp;exact h.hg)];simpa using h.hz
 hg:=by have:=hx.size;simp at this;have:=h.hg;omega
theorem Em(g a n:Nat)(t:ByteArray)(w:World)(h:dA g t a w)(hs:t.size<=1000)(kN:a+n<=t.size)(hn:n<=4) :
 Calls be 101 #[Ig (Z ⟨g,0,Y⟩),O J n,O J (au t a n)] w λe w'=>e=sh (Il #[])/\(w.setCell ⟨g,1,Y⟩ (O J ((a+n:Nat):Int))).Extends w':=by
 have HT:Hid (Calls be 99 #[Ig (Z ⟨g,0,Y⟩),O J n] w λe w'=>e=sh (O J (au t a n))/\(w.setCell ⟨g,1,Y⟩ (O J ((a:Int)+(n:Int)))).Extends w'):=nh g a n t w h.c0 h.c1 h.hz hs kN hn;go_enter Tryz.func101,Tryz.ntmps101;go_wp2_with fail;refine HT.out.mono ?_;rintro e w1 ⟨rfl,hx⟩;have hX:Hid ((w.setCell ⟨g,1,Y⟩ (O J ((a+n:Nat):Int))).Extends w1):=by
  rw[Int.natCast_add];exact hx
 clear hx;go_wp2_with fail;refine(bZ _ _).mono ?_;rintro e w5 ⟨rfl,rfl⟩;go_wp2_with fail;simp[Ji,results,Tryz.results101];simpa using hX.out
theorem AA(g a:Nat)(t:ByteArray)(w:World)(h:dA g t a w)(hs:t.size<=1000)(kN:a+1+au t a 1<=t.size) :
 Calls be 155 #[Ig (Z ⟨g,0,Y⟩)] w λe w'=>e=sh (I (t.extract (a+1) (a+1+au t a 1)))/\∃w1,(w.setCell ⟨g,1,Y⟩ (O J ((a+1:Nat):Int))).Extends w1/\(w1.setCell ⟨g,1,Y⟩ (O J ((a+1+au t a 1:Nat):Int))).Extends w':=by
 have HT:Hid (Calls be 99 #[Ig (Z ⟨g,0,Y⟩),O J 1] w λe w'=>e=sh (O J (au t a 1))/\(w.setCell ⟨g,1,Y⟩ (O J ((a:Int)+((1:Nat):Int)))).Extends w'):=nh g a 1 t w h.c0 h.c1 h.hz hs (by omega) (by omega);go_enter Tryz.func155,Tryz.ntmps155;go_wp2_with fail;refine HT.out.mono ?_;rintro e w1 ⟨rfl,hx⟩;have hX:Hid ((w.setCell ⟨g,1,Y⟩ (O J ((a+1:Nat):Int))).Extends w1):=by
  rw[Int.natCast_add];exact hx
 clear hx;have h1:=h.move hX.out;have xI:Hid (Calls be 152 #[Ig (Z ⟨g,0,Y⟩),O J (au t a 1:Nat)] w1 λe w'=>e=sh (I (t.extract (a+1) (a+1+au t a 1)))/\∃m,w'=(w1.setCell ⟨g,1,Y⟩ (O J (((a+1:Nat):Int)+((au t a 1:Nat):Int)))).drew.drewN m):=Ct g (a+1) (au t a 1) t w1 h1.c0 h1.c1 h1.hz hs kN;go_wp2_with fail;refine xI.out.mono ?_;rintro e w2 ⟨rfl,m,rfl⟩;go_wp2_with fail;simp[Ji,results,Tryz.results155];refine⟨w1,by simpa using hX.out,?_⟩;exact⟨rfl,rfl,rfl,By _,λ_ _=>rfl,λ_ _=>rfl,λ_ _=>rfl⟩
theorem AB(s:ByteArray)(w:World)(hs:s.size<=1000)(XQ:∀j,j<s.size->90<(s.data.toList.getD j 0).toNat\/(s.data.toList.getD j 0).toNat<65) :
 Calls be 154 #[I s] w λe w'=>e=sh (I s)/\w.Extends w':=by
 have XP:=λw s=>O9 (P:=be) w 9 127 5 s (u:=.string) Iv JK Jm;have R8:∀j,j<s.size->(Ob w 5 s).cell? ⟨w.heap.size,j,Y⟩=Z (O .u8 (s.data.toList.getD j 0).toNat):=λj hj=>Lib.bytesWorld_cell w 5 s j hj;have hX:w.Extends (Ob w 5 s):=by
  rw[<- nf w s];exact(World.Extends.refl w).drew.alloc _
 obtain⟨W1,gA⟩:∃W1,W1=Ob w 5 s:=⟨_,rfl⟩;go_enter Tryz.func154,Tryz.ntmps154;go_wp2_with fail;rw[<- gA] at R8 hX ⊢;clear XP gA;have Ka:s.data.toList.length=s.size:=by simp
 have uh:∀cap,(convert 127 9 (U (Z ⟨w.heap.size,0,Y⟩) s.size cap)).run be W1=.ok (I s) W1:=λcap=>by
  have h:=run_convert_bytes_back (P:=be) W1 127 9 5 ⟨w.heap.size,0,Y⟩ cap s.data.toList JK Jm Iv (λj hj=>by
   have h2:=R8 j (by omega);rw[List.getD_eq_getElem?_getD,List.getElem?_eq_getElem hj] at h2;have ha:(⟨w.heap.size,0,Y⟩:Addr).add j=⟨w.heap.size,j,Y⟩:=by
    by_cases MZ:j=0<;>simp[Addr.add,MZ]
   rw[ha];simpa using h2)
  rw[Ka] at h;exact h
 go_loopw [10] (λvi wr=>∃(k:Nat),vi=O J k/\k<=s.size/\wr=W1)
  (λvi _=>s.size-(intOf vi).toNat)
 case atStart=>exact⟨0,rfl,by omega,rfl⟩
 case round=>
  obtain⟨k,rfl,hk,rfl⟩:=hrel;by_cases gj:k<s.size
  .have hc:decide ((k:Int)<(s.size:Int))=true:=by simp;omega
   have bj:=R8 k gj;have eP:(0:Int)<=(k:Int):=by omega
   have TN:(k:Int)<(s.size:Int):=by omega
   have Ea:((k:Int)).toNat=k:=by omega
   have hl:=XQ k gj;generalize hb:(s.data.toList.getD k 0).toNat=b at bj hl;clear R8 XQ uh hb;have DT:(decide ((65:Int)<=(b:Int))&&decide ((b:Int)<=90))=false:=by
    rcases hl with h|h<;>simp<;>omega
   by_cases h65:65<=b
   .have lY:decide ((65:Int)<=(b:Int))=true:=by simp;omega
    have En:decide ((b:Int)<=90)=false:=by simp;omega
    go_wp2_with fail;refine⟨⟨k+1,by simp,by omega,trivial⟩,by simp[intOf];omega⟩
   .have lY:decide ((65:Int)<=(b:Int))=false:=by simp;omega
    go_wp2_with fail;refine⟨⟨k+1,by simp,by omega,trivial⟩,by simp[intOf];omega⟩
  .have hc:decide ((k:Int)<(s.size:Int))=false:=by simp;omega
   go_wp2_with fail;simp[Ji,results,Tryz.results154];exact hX
end Go.Proofs.YtfidjlcdlakceaaGreatDoor
