import Derived.Test.YtignmeaeibaejaaGreatDoorV1
import Derived.Test.YtignmeaeibaejaaGreatDoorV3
import Derived.Lib.Split
import Derived.OwnWalk
namespace Go.Proofs.YtignmeaeibaejaaGreatDoor
open Go.RowKit
theorem belowN {B:Nat} {w w1:World} (h:Below B w w1) (m:Nat):Below B w (w1.drewN m):=⟨h.os,h.tape,h.output,h.size,h.block⟩
theorem ext_to (s:ByteArray) (i:Nat):s.extract 0 i=mk (s.data.toList.take i):=by
 rw [← mk_data (s.extract 0 i),Lib.extract_from_zero]
theorem ext_from (s:ByteArray) (i:Nat):s.extract i s.size=mk (s.data.toList.drop i):=by
 rw [← mk_data (s.extract i s.size),Lib.extract_to_end]
set_option maxHeartbeats 800000 in
theorem scut_none (s:ByteArray) (w:World) (h:Lib.indexByte s.data.toList 46 = -1) :
 Calls Tryz.prog 156 #[.string s,.string ⟨#[46]⟩] w fun e w'=>e=.returned (.tuple #[.string s,.string ⟨#[]⟩,.bool false])∧w'=w:=by
 go_enter Tryz.func156,Tryz.ntmps156
 go_wp2_with (go_at_call 157;refine (Tryz.stringslite_Index_one s 46 _).mono ?_;rintro e w' ⟨rfl,rfl⟩;rw [h])
 go_ret3
 exact ⟨rfl,rfl⟩
set_option maxHeartbeats 1600000 in
theorem scut_some (s:ByteArray) (i:Nat) (w:World) (h:Lib.indexByte s.data.toList 46=(i:Int)) (hs:s.size≤maxLen) :
 Calls Tryz.prog 156 #[.string s,.string ⟨#[46]⟩] w fun e w'=>e=.returned (.tuple #[.string (s.extract 0 i),.string (s.extract (i+1) s.size),.bool true])∧∃ n,w'=w.drewN n:=by
 have hi:i < s.size:=by have:=(ix_some h).1;simpa using this
 unfold maxLen at hs
 have h0:((i:Int)).toNat=i:=by omega
 have h1:IntKind.i64.wrap ((i:Int)+1)=((i+1:Nat):Int):=by rw [IntKind.wrap_i64];omega
 have h2:(((i+1:Nat):Int)).toNat=i+1:=by omega
 have h3:((s.size:Int)).toNat=s.size:=by omega
 go_enter Tryz.func156,Tryz.ntmps156
 go_wp2_with (go_at_call 157;refine (Tryz.stringslite_Index_one s 46 _).mono ?_;rintro e w' ⟨rfl,rfl⟩;rw [h])
 go_quiet (fail)
 go_wp2_with fail
 go_ret3
 exact ⟨rfl,⟨_,rfl⟩⟩
set_option maxHeartbeats 800000 in
theorem cut_none (s:ByteArray) (w:World) (h:Lib.indexByte s.data.toList 46 = -1) :
 Calls Tryz.prog 135 #[.string s,.string ⟨#[46]⟩] w fun e w'=>e=.returned (.tuple #[.string s,.string ⟨#[]⟩,.bool false])∧Below w.heap.size w w':=by
 go_enter Tryz.func135,Tryz.ntmps135
 go_wp2_with (go_at_call 156;refine (scut_none s _ h).mono ?_;rintro e w' ⟨rfl,rfl⟩)
 go_ret3
 exact ⟨rfl,Below.refl _ _⟩
set_option maxHeartbeats 800000 in
theorem cut_some (s:ByteArray) (i:Nat) (w:World) (h:Lib.indexByte s.data.toList 46=(i:Int)) (hs:s.size≤maxLen) :
 Calls Tryz.prog 135 #[.string s,.string ⟨#[46]⟩] w fun e w'=>e=.returned (.tuple #[.string (s.extract 0 i),.string (s.extract (i+1) s.size),.bool true])∧Below w.heap.size w w':=by
 go_enter Tryz.func135,Tryz.ntmps135
 go_wp2_with (go_at_call 156;refine (scut_some s i _ h hs).mono ?_;rintro e w' ⟨rfl,n,rfl⟩)
 go_ret3
 exact ⟨rfl,belowN (Below.refl _ _) _⟩
set_option maxHeartbeats 400000 in
theorem isNone_any (s:ByteArray) (w:World) (hs:s.size≤maxLen) :
 Calls Tryz.prog 112 #[.string s] w fun e w'=>e=.returned (.bool (!labB s))∧w'=w:=by
 go_enter Tryz.func112,Tryz.ntmps112
 go_wp2_with (go_at_call 26;refine (label_any _ _ hs).mono ?_;rintro e w' ⟨rfl,rfl⟩)
 go_ret
 exact ⟨rfl,rfl⟩
def szOf:Value→Nat
 | .string r=>r.size
 | _=>0
def tOf:Value→Nat
 | .bool true=>1
 | _=>0
theorem sz_end (r:ByteArray):szOf (.string ⟨#[]⟩)+tOf (.bool false) < szOf (.string r)+tOf (.bool true):=by
 show 0+0 < r.size+1
 omega
set_option maxHeartbeats 1600000 in
theorem hasLabel_any (s:ByteArray) (w:World) (hs:s.size≤maxLen) :
 Calls Tryz.prog 113 #[.string s,.func (.func 112) #[] #[]] w fun e w'=>e=.returned (.bool (!(spl s.data.toList).all labL))∧Below w.heap.size w w':=by
 have H0:Hid ((spl s.data.toList).all labL=(spl s.data.toList).all labL):=rfl
 have HS:Hid (∀ r:ByteArray,r=s→r.size≤maxLen):=fun r h=>by rw [h];exact hs
 have HS0:=HS.out s rfl
 generalize hres:(spl s.data.toList).all labL=res at *
 have H1:Hid (res=(spl s.data.toList).all labL):=hres.symm
 clear hres H0 HS hs
 go_enter Tryz.func113,Tryz.ntmps113
 go_wp2_with fail
 go_loopw [0,5] (fun nm mo wr=>∃ r:ByteArray,nm=.string r∧r.size≤maxLen∧((mo=.bool true∧Hid (res=(spl r.data.toList).all labL))∨(mo=.bool false∧Hid (res=true)))∧Below w.heap.size w wr) (fun nm mo _=>szOf nm+tOf mo)
 case atStart=>exact ⟨s,rfl,HS0,.inl ⟨rfl,H1⟩,Below.refl _ _⟩
 case round=>
  obtain ⟨r,rfl,hr,hmo,hbl⟩:=hrel
  have HB:Hid (Below w.heap.size w wr):=hbl
  clear hbl
  rcases hmo with ⟨rfl,hres⟩ | ⟨rfl,hres⟩
  ·have hge:=Lib.indexByte_ge r.data.toList 46
   by_cases hi:Lib.indexByte r.data.toList 46 = -1
   ·have hL:res=labB r:=by rw [hres.out,spl_none _ (ix_none hi)];simp [labL,mk_data]
    have HC:Hid (∀ W,Calls Tryz.prog 135 #[.string r,.string ⟨#[46]⟩] W fun e w'=>e=.returned (.tuple #[.string r,.string ⟨#[]⟩,.bool false])∧Below W.heap.size W w'):=fun W=>cut_none r W hi
    clear hi hge hres
    rcases hb:labB r with _ | _
    ·rw [hb] at hL
     have HL:Hid (res=false):=hL
     clear hL
     go_wp2_with (first | (go_at_call 135;refine (HC.out _).mono ?_;rintro e w1 ⟨rfl,hb1⟩) | (go_at_call 112;refine (isNone_any r _ hr).mono ?_;rintro e w2 ⟨rfl,rfl⟩;rw [hb]))
     go_ret
     exact ⟨ret_bool (by rw [HL.out];rfl),HB.out.trans (hb1.mono HB.out.size)⟩
    ·rw [hb] at hL
     have HL:Hid (res=true):=hL
     clear hL
     go_wp2_with (first | (go_at_call 135;refine (HC.out _).mono ?_;rintro e w1 ⟨rfl,hb1⟩) | (go_at_call 112;refine (isNone_any r _ hr).mono ?_;rintro e w2 ⟨rfl,rfl⟩;rw [hb]))
     exact ⟨⟨⟨#[]⟩,rfl,by decide,.inr ⟨rfl,HL⟩,HB.out.trans (hb1.mono HB.out.size)⟩,sz_end r⟩
   ·obtain ⟨i,hi2⟩:∃ i:Nat,Lib.indexByte r.data.toList 46=(i:Int):=⟨(Lib.indexByte r.data.toList 46).toNat,by omega⟩
    obtain ⟨h1,h2,h3⟩:=ix_some hi2
    have hlt:i < r.size:=by simpa using h1
    have hL:res=(labB (r.extract 0 i) && (spl (r.extract (i+1) r.size).data.toList).all labL):=by
     rw [hres.out,ext_to,ext_from,data_mk]
     conv=>lhs;rw [h2]
     rw [spl_app _ _ h3,List.all_cons];rfl
    have hz1:(r.extract 0 i).size≤maxLen:=by rw [ext_to,mk_size,List.length_take];simp;unfold maxLen at *;omega
    have hz2:(r.extract (i+1) r.size).size≤maxLen:=by rw [ext_from,mk_size,List.length_drop];simp;unfold maxLen at *;omega
    have hz3:(r.extract (i+1) r.size).size < r.size:=by rw [ext_from,mk_size,List.length_drop];simp;omega
    have HC:Hid (∀ W,Calls Tryz.prog 135 #[.string r,.string ⟨#[46]⟩] W fun e w'=>e=.returned (.tuple #[.string (r.extract 0 i),.string (r.extract (i+1) r.size),.bool true])∧Below W.heap.size W w'):=fun W=>cut_some r i W hi2 hr
    clear hi hi2 hge hres h1 h2 h3
    generalize r.extract 0 i=la at *
    generalize r.extract (i+1) r.size=re at *
    rcases hb:labB la with _ | _
    ·rw [hb] at hL
     have HL:Hid (res=false):=hL
     clear hL
     go_wp2_with (first | (go_at_call 135;refine (HC.out _).mono ?_;rintro e w1 ⟨rfl,hb1⟩) | (go_at_call 112;refine (isNone_any la _ hz1).mono ?_;rintro e w2 ⟨rfl,rfl⟩;rw [hb]))
     go_ret
     exact ⟨ret_bool (by rw [HL.out];rfl),HB.out.trans (hb1.mono HB.out.size)⟩
    ·rw [hb,Bool.true_and] at hL
     have HL:Hid (res=(spl re.data.toList).all labL):=hL
     clear hL
     go_wp2_with (first | (go_at_call 135;refine (HC.out _).mono ?_;rintro e w1 ⟨rfl,hb1⟩) | (go_at_call 112;refine (isNone_any la _ hz1).mono ?_;rintro e w2 ⟨rfl,rfl⟩;rw [hb]))
     exact ⟨⟨re,rfl,hz2,.inl ⟨rfl,HL⟩,HB.out.trans (hb1.mono HB.out.size)⟩,by simp [szOf,tOf];omega⟩
  ·go_wp2_with fail
   go_ret
   exact ⟨ret_bool (by rw [hres.out];rfl),HB.out⟩
theorem nempty {s:ByteArray} (h:s.size≠0):(s.toList == [])=false∧¬ s.toList=[]:=by
 have h3:¬ s.toList=[]:=fun e=>h (by
  rw [Lib.toList_data] at e
  have:s.data.toList.length=0:=by rw [e];rfl
  simpa using this)
 exact ⟨by simpa using h3,h3⟩
theorem isempty {s:ByteArray} (h:s.size=0):s=⟨#[]⟩:=by
 cases s with
 | mk a=>simp [ByteArray.size] at h;subst h;rfl
set_option maxHeartbeats 1600000 in
theorem dnsCheck_any (s:ByteArray) (w:World) (hs:s.size≤maxLen) :
 Calls Tryz.prog 86 #[.string s] w fun e w'=>e=.returned (.int .i64 (chkN s))∧Below w.heap.size w w':=by
 by_cases h0:s.size=0
 ·have e0:chkN s=0:=by unfold chkN;rw [if_pos h0]
  rw [e0]
  have:=isempty h0
  subst this
  clear e0 h0 hs
  go_enter Tryz.func86,Tryz.ntmps86
  go_wp2_with fail
  go_ret
  exact ⟨rfl,Below.refl _ _⟩
 ·obtain ⟨n1,n2⟩:=nempty h0
  have HL:Hid (∀ W,Calls Tryz.prog 113 #[.string s,.func (.func 112) #[] #[]] W fun e w'=>e=.returned (.bool (!(spl s.data.toList).all labL))∧Below W.heap.size W w'):=fun W=>hasLabel_any s W hs
  have HE:Hid (chkN s=if (spl s.data.toList).all labL=false then 1 else if 8 < (spl s.data.toList).length∨120 < s.size then 2 else 0):=(show chkN s=_ by unfold chkN;rw [if_neg h0])
  have hlen:=spl_len s.data.toList
  unfold maxLen at hs
  clear h0
  generalize chkN s=r at *
  cases hall:(spl s.data.toList).all labL with
  | false=>
    have HR:Hid (r=1):=(show r=1 by rw [HE.out,if_pos hall])
    rw [hall] at HL
    clear HE
    go_enter Tryz.func86,Tryz.ntmps86
    go_wp2_with (go_at_call 113;refine (HL.out _).mono ?_;rintro e w1 ⟨rfl,hb1⟩)
    go_ret
    exact ⟨ret_int HR.out.symm,hb1⟩
  | true=>
    rw [hall] at HL
    have HE2:Hid (r=if 8 < s.data.toList.count 46+1∨120 < s.size then 2 else 0):=(show r=_ by rw [HE.out,hall,hlen];rfl)
    have hcl:s.data.toList.count 46≤s.size:=by have:=List.count_le_length (a:=(46:UInt8)) (l:=s.data.toList);simpa using this
    clear HE hlen hall
    have HCT:Hid (∀ W,Calls Tryz.prog 114 #[.string s,.string ⟨#[46]⟩] W fun e w'=>e=.returned (.int .i64 ((s.data.toList.count 46:Nat):Int))∧w'=W):=fun W=>Tryz.strings_Count_one s 46 W
    generalize s.data.toList.count 46=cn at *
    by_cases h1:8≤cn
    ·have HR:Hid (r=2):=(show r=2 by rw [HE2.out,if_pos (.inl (by omega))])
     clear HE2
     have h2:decide (8≤(cn:Int))=true:=by simp;omega
     go_enter Tryz.func86,Tryz.ntmps86
     go_wp2_with (first | (go_at_call 113;refine (HL.out _).mono ?_;rintro e w1 ⟨rfl,hb1⟩) | (go_at_call 114;refine (HCT.out _).mono ?_;rintro e w2 ⟨rfl,rfl⟩))
     go_ret
     exact ⟨ret_int HR.out.symm,hb1⟩
    ·have h2:decide (8≤(cn:Int))=false:=by simp;omega
     by_cases h3:120 < s.size
     ·have HR:Hid (r=2):=(show r=2 by rw [HE2.out,if_pos (.inr h3)])
      clear HE2
      have h4:decide (120 < (s.size:Int))=true:=by simp;omega
      go_enter Tryz.func86,Tryz.ntmps86
      go_wp2_with (first | (go_at_call 113;refine (HL.out _).mono ?_;rintro e w1 ⟨rfl,hb1⟩) | (go_at_call 114;refine (HCT.out _).mono ?_;rintro e w2 ⟨rfl,rfl⟩))
      go_ret
      exact ⟨ret_int HR.out.symm,hb1⟩
     ·have HR:Hid (r=0):=(show r=0 by rw [HE2.out,if_neg (by omega)])
      clear HE2
      have h4:decide (120 < (s.size:Int))=false:=by simp;omega
      go_enter Tryz.func86,Tryz.ntmps86
      go_wp2_with (first | (go_at_call 113;refine (HL.out _).mono ?_;rintro e w1 ⟨rfl,hb1⟩) | (go_at_call 114;refine (HCT.out _).mono ?_;rintro e w2 ⟨rfl,rfl⟩))
      go_ret
      exact ⟨ret_int HR.out.symm,hb1⟩
end Go.Proofs.YtignmeaeibaejaaGreatDoor
