import Derived.Test.YtfidhgjmifendaaGreatDoorns12
import Derived.Test.YtfidhgjmifendaaGreatDoorRows
import Derived.Stop.LaidErr
import Derived.LaidSub
import Derived.LaidMore
set_option maxHeartbeats 1600000
set_option maxRecDepth 100000
open Option renaming some→AI,none→be
open Go.Value renaming pointer→Ie,string→Y
open Option.some renaming injEq→It
open Prod.mk renaming injEq→IS
open Go.Proofs.Tryz renaming prog→AS,underlying9→Jb
open Nat renaming le_refl→Ic,lt_of_lt_of_le→IL
namespace Go.Proofs.YtfidhgjmifendaaGreatDoor
open Go.RowKit
structure Rv(B:Nat)(w:World):Prop where
 Vf:mw B w
 er:Er w
 b1:1<B
 b2:2<B
 le:B<=w.heap.size
theorem Rv.below{B:Nat}{w w':World}(h:Rv B w)(hb:Below B w w'):Rv B w':=⟨h.Vf.below hb,h.er.below hb h.b1 h.b2,h.b1,h.b2,Nat.le_trans h.le hb.size⟩
theorem Rv.rp{B g:Nat}{w w':World}(h:Rv B w)(hg:B<=g)(hr:Rp g w w'):Rv B w':=h.below (hr.below hg h.le)
theorem xo{B g:Nat}{l r:List UInt8}{n:Int}{w:World}(hV:Rv B w)(h:kF g l w)(hs:l.length<=140737488355328)(hl:mP l=AI (n,r)) :
 aI 183 #[Ie (AI ⟨g,0,be⟩)] w λe w'=>e=.returned (.int .i64 n)/\kF g r w'/\Rp g w w':=Ed g B l r n w h hs hl hV.Vf hV.le
theorem dd{l r:List UInt8}{n:Int}(h:mP l=AI (n,r)):fU n/\r.length<l.length:=by
 unfold mP at h;split at h
 .simp at h
 rename_i aQ;obtain⟨i,hi⟩:∃i:Nat,Lib.indexByte l 59=(i:Int):=⟨(Lib.indexByte l 59).toNat,by have:=Lib.indexByte_ge l 59;omega⟩;have aX:=C5 59 hi;rw[hi] at h;simp only[Int.toNat_natCast] at h;split at h
 case h_2=>simp at h
 rename_i m hm;split at h
 case isFalse=>simp at h
 simp only[It,IS] at h;obtain⟨rfl,rfl⟩:=h;exact⟨Lib.atoiAll_bounds hm,by rw[List.length_drop];omega⟩
def Ee(l:List UInt8):Option (Bool×List UInt8):=
 match mP l with
 |some (n,r)=>if n=0 then AI (false,r) else if n=1 then AI (true,r) else be
 |none=>be
theorem MH{B g:Nat}{l r:List UInt8}{y:Bool}{w:World}(hV:Rv B w)(h:kF g l w)(hs:l.length<=140737488355328)(hl:Ee l=AI (y,r)) :
 aI 180 #[Ie (AI ⟨g,0,be⟩)] w λe w'=>e=.returned (.bool y)/\kF g r w'/\Rp g w w':=by
 unfold Ee at hl;split at hl
 case h_2=>simp at hl
 rename_i n r' hn;have HN:Hid (aI _ _ _ _):=xo hV h hs hn;clear hn h hV hs;split at hl
 .rename_i h0
  subst h0;simp only[It,IS] at hl;obtain⟨rfl,rfl⟩:=hl;go_enter Tryz.func180,Tryz.ntmps180;go_wp2_with fail;refine HN.out.mono ?_;rintro e w1 ⟨rfl,hp,hr⟩;have HP:Hid (kF g r' w1/\Rp g w w1):=⟨hp,hr⟩;clear hp hr;go_wp2_with (go_at_call 118;refine(jB _ _).mono ?_;rintro e w' ⟨rfl,rfl⟩);go_ret;exact⟨rfl,HP.out⟩
 .split at hl
  case isFalse=>simp at hl
  rename_i h0 h1;subst h1;simp only[It,IS] at hl;obtain⟨rfl,rfl⟩:=hl;go_enter Tryz.func180,Tryz.ntmps180;go_wp2_with fail;refine HN.out.mono ?_;rintro e w1 ⟨rfl,hp,hr⟩;have HP:Hid (kF g r' w1/\Rp g w w1):=⟨hp,hr⟩;clear hp hr;go_wp2_with (go_at_call 118;refine(jB _ _).mono ?_;rintro e w' ⟨rfl,rfl⟩);go_ret;exact⟨rfl,HP.out⟩
end Go.Proofs.YtfidhgjmifendaaGreatDoor
namespace Go.Proofs
open Go.Shelf
def Tryz.xp:Go.Shelf.Ren:=⟨fun|316=>251|n=>n,fun|9=>9|3=>3|4=>4|37=>266|0=>0|127=>301|5=>5|n=>n,fun|n=>n⟩
theorem Tryz.Hj:Go.Proofs.LaysM.n316 AS Tryz.xp:={
 mixed:=by kernel_rfl
 f316:=Tryz.func251.trans (congrArg AI (by kernel_rfl))
 t0:=Tryz.underlying0
 a0:=Tryz.isAgg0
 z0:=Tryz.sizeOf0
 v0:=Tryz.zeroValue0
 t3:=Tryz.underlying3
 a3:=Tryz.isAgg3
 z3:=Tryz.sizeOf3
 v3:=Tryz.zeroValue3
 t4:=Tryz.underlying4
 a4:=Tryz.isAgg4
 z4:=Tryz.sizeOf4
 v4:=Tryz.zeroValue4
 t9:=Jb
 a9:=Tryz.isAgg9
 z9:=Tryz.sizeOf9
 v9:=Tryz.zeroValue9
 t37:=Tryz.underlying266
 a37:=Tryz.isAgg266
 z37:=Tryz.sizeOf266
 v37:=Tryz.zeroValue266
 t127:=Tryz.underlying301
 a127:=Tryz.isAgg301
 z127:=Tryz.sizeOf301
 v127:=Tryz.zeroValue301
 t5:=Tryz.underlying5
 a5:=Tryz.isAgg5
 z5:=Tryz.sizeOf5
 v5:=Tryz.zeroValue5
 i0:=by kernel_rfl
 i3:=by kernel_rfl
 i4:=by kernel_rfl
 i5:=by kernel_rfl
 i9:=by kernel_rfl
 i37:=by kernel_rfl
 i127:=by kernel_rfl }
open Go.RowKit in
theorem Tryz.stringslite_Clone(s:ByteArray)(w:World)(ads:s.size<=281474976710656) :
 Calls AS 251 #[Y s] w λe w'=>e=.returned (Y s)/\Below w.heap.size w w':=Any.stringslite_Clone Tryz.Hj s w ads
end Go.Proofs
namespace Go.Proofs.YtfidhgjmifendaaGreatDoor
open Go.RowKit
theorem Bn(s:ByteArray)(w:World)(hs:s.size<=140737488355328) :
 kL 218 #[Y s] w (Y s):=by
 have HC:Hid (aI _ _ _ _):=Tryz.stringslite_Clone s w (by omega);go_enter Tryz.func218,Tryz.ntmps218;go_wp2_with fail;refine HC.out.mono ?_;rintro e w1 ⟨rfl,hb⟩;go_wp2_with fail;go_ret;exact⟨rfl,hb⟩
def zr(l:List UInt8):Option (ByteArray×List UInt8):=
 match mP l with
 |some (n,r)=>if 0<=n/\n<=r.length then AI (fM (r.take n.toNat),r.drop n.toNat) else be
 |none=>be
theorem MI{B g:Nat}{l r:List UInt8}{s:ByteArray}{w:World}(hV:Rv B w)(h:kF g l w)(hs:l.length<=140737488355328)(hl:zr l=AI (s,r)) :
 aI 179 #[Ie (AI ⟨g,0,be⟩)] w λe w'=>e=.returned (Y s)/\kF g r w'/\Rp g w w':=by
 unfold zr at hl;split at hl
 case h_2=>simp at hl
 rename_i n r' hn;have HN:Hid (aI _ _ _ _):=xo hV h hs hn;have hrl:=(dd hn).2;clear hn h hV;split at hl
 case isFalse=>simp at hl
 rename_i hk;simp only[It,IS] at hl;obtain⟨rfl,rfl⟩:=hl;obtain⟨k,rfl⟩:∃k:Nat,n=(k:Int):=⟨n.toNat,by omega⟩;have Bo:k<=r'.length:=by omega
 simp only[Int.toNat_natCast];obtain⟨R,hR⟩:∃R,R=fM r':=⟨_,rfl⟩;have AV:R.size=r'.length:=by rw[hR,jI]
 have ze:Hid (R.extract 0 k=fM (r'.take k)):=by show _=_;rw[hR,C9]
 have GA:Hid (R.extract k R.size=fM (r'.drop k)):=by show _=_;rw[hR,vT]
 have RR:Hid (∀W,kL 218 #[Y (R.extract 0 k)] W (Y (R.extract 0 k))):=λW=>Bn _ W (by rw[ze.out,jI,List.length_take];omega);have hw:within (k:Int) 0 (R.size:Int)=true:=by unfold within;simp;omega
 have hkR:k<=R.size:=by omega
 have h0:((k:Int)).toNat=k:=by omega
 have h3:((R.size:Int)).toNat=R.size:=by omega
 have hkI:(k:Int)<=(R.size:Int):=by omega
 have hRb:R.size<=140737488355328:=by omega
 have HRR:Hid _:=hR;clear Bo hrl hk hs hR AV;go_enter Tryz.func179,Tryz.ntmps179;go_wp2_with fail;refine HN.out.mono ?_;rintro e w1 ⟨rfl,hp,hr⟩;have HP:Hid (kF g r' w1/\Rp g w w1):=⟨hp,hr⟩;have c1:w1.cell? ⟨g,0,be⟩=AI (Y R):=by rw[HRR.out];exact hp.c0
 clear hp hr;go_wp2_with (first|(go_at_call 54;refine(cB _ _ _ _).mono ?_;rintro e w' ⟨rfl,rfl⟩;rw[hw])|(go_at_call 118;refine(jB _ _).mono ?_;rintro e w' ⟨rfl,rfl⟩));refine(RR.out _).mono ?_;rintro e w4 ⟨rfl,eU⟩;have hp4:=HP.out.1.below eU;have HR4:Hid _:=HP.out.2.trans (Rp.cj eU (Ic _));obtain⟨VV,z4,g4⟩:=hp4;have c4:w4.cell? ⟨g,0,be⟩=AI (Y R):=by rw[HRR.out];exact VV
 clear eU VV c1;go_wp2_with fail;go_ret;refine⟨by rw[ze.out];rfl,⟨?_,by simpa using z4,by simpa using g4⟩,HR4.out.trans (Rp.set g _ _)⟩;rw[<- GA.out];exact World.cell?_setCell_same _ _ _ c4
theorem mw.up{B C:Nat}{w:World}(h:mw B w)(hC:B<=C):mw C w:=λw' hw=>h w' (hw.mono hC)
theorem Rv.up{B C:Nat}{w:World}(h:Rv B w)(hC:B<=C)(hl:C<=w.heap.size):Rv C w:=⟨h.Vf.up hC,h.er,IL h.b1 hC,IL h.b2 hC,hl⟩
theorem Rv.after{w w':World}(h:Rv w.heap.size w)(hb:Below w.heap.size w w'):Rv w'.heap.size w':=(h.below hb).up hb.size (Ic _)
theorem Hk{W:World}{n:String}{g:Nat}{v:Value}(hg:Tryz.prog.globalNamed n=AI g)(h:W.var? AS n=AI #[v]):W.cell? ⟨g,0,be⟩=AI v/\g<W.heap.size:=by
 have h0:W.cell? ⟨g,0,be⟩=AI v:=by have:=World.var?_cell hg h 0;simpa using this
 exact⟨h0,World.block_lt_of_cell? W _ h0⟩
theorem Tryz.adv : Tryz.prog.globalNamed "internal/strconv.uint64pow10" = AI 3 := by kernel_rfl
theorem Tryz.VW:(Tryz.prog.globals[3]?).map (·.type)=AI 336:=by kernel_rfl
theorem Tryz.gES : Tryz.prog.globalNamed "strconv.ErrSyntax" = AI 1 := by kernel_rfl
theorem Tryz.adw:(Tryz.prog.globals[1]?).map (·.type)=AI 253:=by kernel_rfl
theorem Tryz.gER : Tryz.prog.globalNamed "strconv.ErrRange" = AI 2 := by kernel_rfl
theorem Tryz.adx:(Tryz.prog.globals[2]?).map (·.type)=AI 253:=by kernel_rfl
theorem Tryz.ady:Tryz.prog.cellsOf 167=1:=by kernel_rfl
theorem Tryz.adz:Tryz.prog.cellsOf 336=20:=by kernel_rfl
theorem Tryz.cEs:Tryz.prog.cellsOf 334=1:=by kernel_rfl
theorem Tryz.c9:Tryz.prog.cellsOf 9=1:=by kernel_rfl
theorem Hl : "*" ++ "errors.errorString" = "*errors.errorString" := by decide
theorem Tryz.PK(u : TypeId)(h : Tryz.prog.typeName? 3 u = AI "*errors.errorString") : u = 332 :=
 typeName_ptr_named (nm := "errors.errorString") (by rw[Hl]; kernel_rfl) (by kernel_rfl) (by decide) u (by rw[Hl]; exact h)
theorem Hn:(Rows.laid_internal_strconv_uint64pow10:DataW Unit)=Lib.tabData .u64 Lib.pow10Tab:=by kernel_rfl
theorem VI{W : World}(h : laidMetH AS [("math/bits.deBruijn32tab", Rows.laid_math_bits_deBruijn32tab), ("math/bits.deBruijn64tab", Rows.laid_math_bits_deBruijn64tab), ("internal/strconv.uint64pow10", Rows.laid_internal_strconv_uint64pow10), ("strconv.ErrRange", Rows.laid_strconv_ErrRange), ("strconv.ErrSyntax", Rows.laid_strconv_ErrSyntax)] W) : Rv W.heap.size W := by
 rw[MakeChecks.laidMetH_plain _ _ _ (by kernel_rfl)] at h;have h2:=h.tail.tail;rw[Hn] at h2;have hT:=Lib.tabIs_of_head Tryz.adv Tryz.VW Tryz.underlying336 Tryz.underlying167 Tryz.ady Tryz.adz h2;have h3:=h2.tail;unfold Rows.laid_strconv_ErrRange at h3;obtain⟨a1,s1,AW,-,-,-⟩:=laid_sentinel h3 Tryz.gER Tryz.adx Tryz.underlying253 Tryz.PK Tryz.underlying332 Tryz.underlying334 rfl rfl Jb Tryz.cEs Tryz.c9;have h4:=h3.tail;unfold Rows.laid_strconv_ErrSyntax at h4;obtain⟨a0,s0,AX,-,-,-⟩:=laid_sentinel h4 Tryz.gES Tryz.adw Tryz.underlying253 Tryz.PK Tryz.underlying332 Tryz.underlying334 rfl rfl Jb Tryz.cEs Tryz.c9;obtain⟨c1,l1⟩:=Hk Tryz.gER AW;obtain⟨c0,l0⟩:=Hk Tryz.gES AX;exact⟨Lib.tabBelow_of_tabIs hT,⟨_,_,_,_,c0,c1⟩,l0,l1,Ic _⟩
end Go.Proofs.YtfidhgjmifendaaGreatDoor
