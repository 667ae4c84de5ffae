/- Contracts of isDigit, isLetter, isDecimal. -/
import Derived.Test.YteajibbphcfmeaaGreatDoorVWords
import Derived.Laws.RangeAny
import Derived.Shelf.Strings.Builder1
import Derived.Shelf.Strings.Builder2
import Derived.Shelf.Small.Bits
import Derived.Shelf.Small.Wraps
import Derived.Shelf.Strings.BuilderF
import Derived.Shelf.Strings.BuilderK
import Derived.Shelf.Strings.Builder2Cap
import Derived.Shelf.Strconv.Itoa0
import Derived.Shelf.Strconv.Itoa1
import Derived.Shelf.LaysM
import Derived.Shelf.Strconv.Itoa2
import Derived.Shelf.Strings.Search1
import Derived.Shelf.Strings.Search2
import Derived.Shelf.Strings.Cut
import Derived.Shelf.Strings.Shaped
import Derived.Shelf.Strings.Prefix
import Derived.Shelf.Bits.Mul64
import Derived.Shelf.Strings.Repeat
import Derived.Shelf.Strings.BuilderCap
import Derived.Ground.SlsfProg
import Derived.Shelf.SlSortCmp.Insertion
import Derived.Shelf.Spec.TrailingZeros
import Derived.Test.YteajibbphcfmeaaGreatDoorProg
namespace Go.Proofs.YteajibbphcfmeaaGreatDoor
open Go.RowKit
def digB (c:Int):Bool:=decide (48≤c) && decide (c≤57)
theorem zcW (c:Int) (w:World) :
  Calls Tryz.prog 81 #[.int .i32 c] w fun e w'=>e = .returned (.bool (digB c))∧w=w':=by
 by_cases h1:48≤c
 ·have d1:decide (48≤c)=true:=by simpa using h1
  obtain ⟨b,hb⟩:∃ b,decide (c≤57)=b:=⟨_,rfl⟩
  have HV:Hid (digB c=b):=by unfold Hid digB;rw [d1,hb,Bool.true_and]
  go_enter Tryz.func81,Tryz.ntmps81
  go_wp2
  go_ret
  exact ⟨by rw [HV.out];rfl,rfl⟩
 ·have d1:decide (48≤c)=false:=by simpa using h1
  have HV:Hid (digB c=false):=by unfold Hid digB;rw [d1,Bool.false_and]
  go_enter Tryz.func81,Tryz.ntmps81
  go_wp2
  go_ret
  exact ⟨by rw [HV.out];rfl,rfl⟩
def zas (l:List UInt8):Bool:=l.all fun c=>digB (c.toNat:Int)
def zaz (l:List UInt8):Bool:=zas l && (decide (l=[48]) || (decide (l≠[]) && decide (l.head? ≠ some 48)))
theorem zom (s:ByteArray) (pos:Nat) (h:pos<s.size):1≤(Utf8.decode s pos).2:=by
 by_cases ha:(s[pos]'h).toNat<128
 ·rw [decode_ascii s pos h ha]
  exact Nat.le_refl _
 ·exact (decode_high s pos h (by omega)).2
theorem zdh (s:ByteArray) (pos:Nat) (h:pos<s.size):zas (s.data.toList.drop pos)=(digB ((s[pos]'h).toNat:Int) && zas (s.data.toList.drop (pos+1))):=by
 have hl:pos<s.data.toList.length:=by simpa using h
 rw [List.drop_eq_getElem_cons hl]
 rfl
theorem zdQ (c:Int) (h:128≤c):digB c=false:=by
 unfold digB
 have:decide (c≤57)=false:=by simp;omega
 rw [this,Bool.and_false]
set_option maxHeartbeats 1000000 in
set_option maxRecDepth 100000 in
theorem zaj (s:ByteArray) (w:World) :
  Calls Tryz.prog 124 #[.string s] w fun e w'=>e = .returned (.bool (zaz s.data.toList))∧Below w.heap.size w w':=by
 go_enter Tryz.func124,Tryz.ntmps124
 go_wp2
 go_loopw [] (fun wr=>∃ aC,wr=w.iter s aC∧aC≤s.size∧Hid (zas s.data.toList=zas (s.data.toList.drop aC))) (fun wr=>s.size - wr.iterPos w.heap.size)
 case atStart=>exact ⟨0,rfl,Nat.zero_le _,rfl⟩
 case round=>
  obtain ⟨aC,rfl,aJ,hd⟩:=hrel
  by_cases hp:aC<s.size
  ·have aD:=zdh s aC hp
   by_cases ha:(s[aC]'hp).toNat<128
   ·have aE:∀ ty,(Instr.next (.pointer (some ⟨w.heap.size,0,none⟩)) true ty).run Tryz.prog (w.iter s aC)=_:=fun ty=>run_next_ascii w s aC ty hp ha
    obtain ⟨c,hc⟩:∃ c:Nat,(s[aC]'hp).toNat=c:=⟨_,rfl⟩
    rw [hc] at aD ha
    simp only [hc] at aE
    have aA:=zcW (c:Int) (w.iter s (aC+1))
    cases hdg:digB (c:Int)
    ·rw [hdg] at aA aD
     have HV:Hid (zaz s.data.toList=false):=by rw [Hid,zaz,hd.out,aD];rfl
     clear aD hc hdg
     go_wp2_with fail
     refine aA.mono ?_
     rintro e w1 ⟨rfl,rfl⟩
     go_wp2_with fail
     go_ret
     exact ⟨by rw [HV.out];rfl,(Below.refl _ _).alloc (Nat.le_refl _) _⟩
    ·rw [hdg] at aA aD
     have HV:Hid (zas s.data.toList=zas (s.data.toList.drop (aC+1))):=by rw [Hid,hd.out,aD];rfl
     clear aD hc hdg
     go_wp2_with fail
     refine aA.mono ?_
     rintro e w1 ⟨rfl,rfl⟩
     go_wp2_with fail
     go_roundw
     case rel=>exact ⟨aC+1,rfl,hp,HV⟩
     case measure=>simp;omega
   ·have aE:∀ ty,(Instr.next (.pointer (some ⟨w.heap.size,0,none⟩)) true ty).run Tryz.prog (w.iter s aC)=_:=fun ty=>run_next_any w s aC ty hp
    have aG:=(decode_high s aC hp (by omega)).1
    obtain ⟨c,hc⟩:∃ c,(Utf8.decode s aC).1=c:=⟨_,rfl⟩
    obtain ⟨p2,aF⟩:∃ p2,aC+(Utf8.decode s aC).2=p2:=⟨_,rfl⟩
    simp only [hc,aF] at aE
    rw [hc] at aG
    have aA:=zcW (c:Int) (w.iter s p2)
    rw [zdQ (c:Int) (by omega)] at aA
    rw [zdQ _ (show (128:Int)≤((s[aC]'hp).toNat:Int) by omega)] at aD
    have HV:Hid (zaz s.data.toList=false):=by rw [Hid,zaz,hd.out,aD];rfl
    clear aD hc aF ha
    go_wp2_with fail
    refine aA.mono ?_
    rintro e w1 ⟨rfl,rfl⟩
    go_wp2_with fail
    go_ret
    exact ⟨by rw [HV.out];rfl,(Below.refl _ _).alloc (Nat.le_refl _) _⟩
  ·have aE:∀ ty,(Instr.next (.pointer (some ⟨w.heap.size,0,none⟩)) true ty).run Tryz.prog (w.iter s aC)=_:=fun ty=>run_next_end w s aC ty hp
   have HD:Hid (zas s.data.toList=true):=by rw [Hid,hd.out,List.drop_of_length_le (by simpa using hp)];rfl
   by_cases hA:s.toList=[48]
   ·have HV:Hid (zaz s.data.toList=true):=by rw [Hid,zaz,HD.out,←ByteArray.toList_eq,hA];rfl
    go_wp2
    go_ret
    exact ⟨by rw [HV.out];rfl,(Below.refl _ _).alloc (Nat.le_refl _) _⟩
   ·by_cases hB:s.toList=[]
    ·have HV:Hid (zaz s.data.toList=false):=by rw [Hid,zaz,HD.out,←ByteArray.toList_eq,hB];rfl
     go_wp2
     go_ret
     exact ⟨by rw [HV.out];rfl,(Below.refl _ _).alloc (Nat.le_refl _) _⟩
    ·have hz:0<s.size:=by
      rcases Nat.eq_zero_or_pos s.size with h | h
      ·exfalso
       apply hB
       rw [ByteArray.toList_eq]
       exact List.eq_nil_of_length_eq_zero (by simpa using h)
      ·exact h
     have aI:s.toList.isEmpty=false:=by
      cases h:s.toList with
      | nil=>exact absurd h hB
      | cons _ _=>rfl
     have aH:(s.toList==[48])=false:=by simpa using hA
     obtain ⟨b,hb⟩:∃ b,((((s[0]'hz).toNat:Nat):Int) != 48)=b:=⟨_,rfl⟩
     have HV:Hid (zaz s.data.toList=b):=by
      rw [Hid,zaz,HD.out,←hb]
      have e:s.data.toList.head? = some (s[0]'hz):=by
       have hl:0<s.data.toList.length:=by simpa using hz
       rw [List.head?_eq_getElem?,List.getElem?_eq_getElem hl]
       rfl
      rw [←ByteArray.toList_eq] at e ⊢
      rw [e]
      rw [Bool.eq_iff_iff]
      simp [hA,hB]
      rw [←UInt8.toNat_inj]
      simp
      omega
     go_wp2
     go_ret
     exact ⟨by rw [HV.out];rfl,(Below.refl _ _).alloc (Nat.le_refl _) _⟩
def letB (c:Int):Bool:=(decide (97≤c) && decide (c≤122)) || (decide (65≤c) && decide (c≤90))
theorem zeE (c:Int) (w:World) :
  Calls Tryz.prog 80 #[.int .i32 c] w fun e w'=>e = .returned (.bool (letB c))∧w=w':=by
 by_cases h1:97≤c
 ·have d1:decide (97≤c)=true:=by simpa using h1
  by_cases h2:c≤122
  ·have d2:decide (c≤122)=true:=by simpa using h2
   have HV:Hid (letB c=true):=by unfold Hid letB;rw [d1,d2];rfl
   go_enter Tryz.func80,Tryz.ntmps80
   go_wp2
   go_ret
   exact ⟨by rw [HV.out];rfl,rfl⟩
  ·have d2:decide (c≤122)=false:=by simpa using h2
   have d3:decide (65≤c)=true:=by simp;omega
   have d4:decide (c≤90)=false:=by simp;omega
   have HV:Hid (letB c=false):=by unfold Hid letB;rw [d1,d2,d3,d4];rfl
   go_enter Tryz.func80,Tryz.ntmps80
   go_wp2
   go_ret
   exact ⟨by rw [HV.out];rfl,rfl⟩
 ·have d1:decide (97≤c)=false:=by simpa using h1
  by_cases h3:65≤c
  ·have d3:decide (65≤c)=true:=by simpa using h3
   obtain ⟨b,hb⟩:∃ b,decide (c≤90)=b:=⟨_,rfl⟩
   have HV:Hid (letB c=b):=by unfold Hid letB;rw [d1,d3,hb];simp
   go_enter Tryz.func80,Tryz.ntmps80
   go_wp2
   go_ret
   exact ⟨by rw [HV.out];rfl,rfl⟩
  ·have d3:decide (65≤c)=false:=by simpa using h3
   have HV:Hid (letB c=false):=by unfold Hid letB;rw [d1,d3];rfl
   go_enter Tryz.func80,Tryz.ntmps80
   go_wp2
   go_ret
   exact ⟨by rw [HV.out];rfl,rfl⟩
def zbM (first:Bool) (c:Int):Bool:=letB c || (!first && (digB c || decide (c=95)))
def zda (first:Bool):List UInt8→Bool
 | []=>true
 | c :: l=>zbM first (c.toNat:Int) && zda false l
def zc7 (l:List UInt8):Bool:=decide (l≠[]) && (decide (l.length≤24) && zda true l)
theorem zgQ (c:Int) (h:128≤c):letB c=false:=by
 unfold letB
 have h1:decide (c≤122)=false:=by simp;omega
 have h2:decide (c≤90)=false:=by simp;omega
 rw [h1,h2,Bool.and_false,Bool.and_false];rfl
theorem zi1 (f:Bool) (c:Int) (h:128≤c):zbM f c=false:=by
 unfold zbM
 rw [zgQ c h,zdQ c h,decide_eq_false (by omega)];simp
theorem zfU (f:Bool) (s:ByteArray) (pos:Nat) (h:pos<s.size):zda f (s.data.toList.drop pos)=(zbM f ((s[pos]'h).toNat:Int) && zda false (s.data.toList.drop (pos+1))):=by
 have hl:pos<s.data.toList.length:=by simpa using h
 rw [List.drop_eq_getElem_cons hl]
 rfl
set_option maxHeartbeats 2000000 in
set_option maxRecDepth 100000 in
theorem zdu (s:ByteArray) (w:World) :
  Calls Tryz.prog 27 #[.string s] w fun e w'=>e = .returned (.bool (zc7 s.data.toList))∧Below w.heap.size w w':=by
 have aF:s.data.toList.length=s.size:=by simp
 by_cases h0:s.toList=[]
 ·have HV:Hid (zc7 s.data.toList=false):=by rw [Hid,←ByteArray.toList_eq,h0];rfl
  go_enter Tryz.func27,Tryz.ntmps27
  go_wp2
  go_ret
  exact ⟨by rw [HV.out];rfl,Below.refl _ _⟩
 ·have aM:s.toList.isEmpty=false:=by
   cases h:s.toList with
   | nil=>exact absurd h h0
   | cons _ _=>rfl
  have aK:(s.toList==[])=false:=by simpa using h0
  by_cases h24:s.size≤24
  ·have HB:Hid (zc7 s.data.toList=zda true s.data.toList):=by
    rw [Hid,zc7,aF,decide_eq_true h24,decide_eq_true (by rw [←ByteArray.toList_eq];exact h0)];simp
   have aJ:decide ((24:Int)<(s.size:Int))=false:=by simp;omega
   clear aF h0
   go_enter Tryz.func27,Tryz.ntmps27
   go_wp2
   go_loopw [] (fun wr=>∃ aC,wr=w.iter s aC∧aC≤s.size∧Hid (zda true s.data.toList=zda (decide (aC=0)) (s.data.toList.drop aC))) (fun wr=>s.size - wr.iterPos w.heap.size)
   case atStart=>exact ⟨0,rfl,Nat.zero_le _,rfl⟩
   case round=>
    obtain ⟨aC,rfl,aN,hd⟩:=hrel
    have aL:Below w.heap.size w (w.iter s aC):=(Below.refl _ _).alloc (Nat.le_refl _) _
    by_cases hp:aC<s.size
    ·have aE:=zfU (decide (aC=0)) s aC hp
     by_cases ha:(s[aC]'hp).toNat<128
     ·have aG:∀ ty,(Instr.next (.pointer (some ⟨w.heap.size,0,none⟩)) true ty).run Tryz.prog (w.iter s aC)=_:=fun ty=>run_next_ascii w s aC ty hp ha
      obtain ⟨c,hc⟩:∃ c:Nat,(s[aC]'hp).toNat=c:=⟨_,rfl⟩
      rw [hc] at aE ha
      simp only [hc] at aG
      have aD:=zeE (c:Int) (w.iter s (aC+1))
      have aA:=zcW (c:Int) (w.iter s (aC+1))
      have e0:decide (aC+1=0)=false:=by simp
      cases hlt:letB (c:Int)
      ·rw [hlt] at aD
       by_cases hp0:aC=0
       ·have HV:Hid (zc7 s.data.toList=false):=by
         rw [Hid,HB.out,hd.out,aE,zbM,hlt,decide_eq_true hp0];rfl
        subst hp0
        clear aE hc aA
        go_wp2_with fail
        refine aD.mono ?_
        rintro e w1 ⟨rfl,rfl⟩
        go_wp2_with fail
        go_ret
        exact ⟨by rw [HV.out];rfl,(Below.refl _ _).alloc (Nat.le_refl _) _⟩
       ·have e1:decide (aC=0)=false:=by simpa using hp0
        have e2:((aC:Int)==0)=false:=by rw [beq_eq_false_iff_ne];omega
        cases hdg:digB (c:Int)
        ·rw [hdg] at aA
         by_cases h95:c=95
         ·have e3:(((c:Nat):Int) != 95)=false:=by simp [h95]
          have HV:Hid (zda true s.data.toList=zda (decide (aC+1=0)) (s.data.toList.drop (aC+1))):=by
           rw [Hid,hd.out,aE,zbM,hlt,hdg,e1,e0,decide_eq_true (show ((c:Nat):Int)=95 by omega)];rfl
          clear aE hc hlt hdg hp0 h95
          go_wp2_with fail
          refine aD.mono ?_
          rintro e w1 ⟨rfl,rfl⟩
          go_wp2_with fail
          refine aA.mono ?_
          rintro e w1 ⟨rfl,rfl⟩
          go_wp2_with fail
          go_roundw
          case rel=>exact ⟨aC+1,rfl,hp,HV⟩
          case measure=>simp;omega
         ·have e3:(((c:Nat):Int) != 95)=true:=by simp;omega
          have HV:Hid (zc7 s.data.toList=false):=by
           rw [Hid,HB.out,hd.out,aE,zbM,hlt,hdg,e1,decide_eq_false (show ¬ ((c:Nat):Int)=95 by omega)];rfl
          clear aE hc hlt hdg hp0 h95
          go_wp2_with fail
          refine aD.mono ?_
          rintro e w1 ⟨rfl,rfl⟩
          go_wp2_with fail
          refine aA.mono ?_
          rintro e w1 ⟨rfl,rfl⟩
          go_wp2_with fail
          go_ret
          exact ⟨by rw [HV.out];rfl,(Below.refl _ _).alloc (Nat.le_refl _) _⟩
        ·rw [hdg] at aA
         have HV:Hid (zda true s.data.toList=zda (decide (aC+1=0)) (s.data.toList.drop (aC+1))):=by
          rw [Hid,hd.out,aE,zbM,hlt,hdg,e1,e0];rfl
         clear aE hc hlt hdg hp0
         go_wp2_with fail
         refine aD.mono ?_
         rintro e w1 ⟨rfl,rfl⟩
         go_wp2_with fail
         refine aA.mono ?_
         rintro e w1 ⟨rfl,rfl⟩
         go_wp2_with fail
         go_roundw
         case rel=>exact ⟨aC+1,rfl,hp,HV⟩
         case measure=>simp;omega
      ·rw [hlt] at aD
       have HV:Hid (zda true s.data.toList=zda (decide (aC+1=0)) (s.data.toList.drop (aC+1))):=by
        rw [Hid,hd.out,aE,zbM,hlt,e0];rfl
       clear aE hc hlt aA
       go_wp2_with fail
       refine aD.mono ?_
       rintro e w1 ⟨rfl,rfl⟩
       go_wp2_with fail
       go_roundw
       case rel=>exact ⟨aC+1,rfl,hp,HV⟩
       case measure=>simp;omega
     ·have aG:∀ ty,(Instr.next (.pointer (some ⟨w.heap.size,0,none⟩)) true ty).run Tryz.prog (w.iter s aC)=_:=fun ty=>run_next_any w s aC ty hp
      have aI:=(decode_high s aC hp (by omega)).1
      obtain ⟨c,hc⟩:∃ c,(Utf8.decode s aC).1=c:=⟨_,rfl⟩
      obtain ⟨p2,aH⟩:∃ p2,aC+(Utf8.decode s aC).2=p2:=⟨_,rfl⟩
      simp only [hc,aH] at aG
      rw [hc] at aI
      have aD:=zeE (c:Int) (w.iter s p2)
      rw [zgQ (c:Int) (by omega)] at aD
      have aA:=zcW (c:Int) (w.iter s p2)
      rw [zdQ (c:Int) (by omega)] at aA
      rw [zi1 _ _ (show (128:Int)≤((s[aC]'hp).toNat:Int) by omega)] at aE
      have HV:Hid (zc7 s.data.toList=false):=by rw [Hid,HB.out,hd.out,aE];rfl
      have e3:(((c:Nat):Int) != 95)=true:=by simp;omega
      by_cases hp0:aC=0
      ·have e2:((aC:Int)==0)=true:=by simp [hp0]
       clear aE hc aH ha hp0 aA
       go_wp2_with fail
       refine aD.mono ?_
       rintro e w1 ⟨rfl,rfl⟩
       go_wp2_with fail
       go_ret
       exact ⟨by rw [HV.out];rfl,(Below.refl _ _).alloc (Nat.le_refl _) _⟩
      ·have e2:((aC:Int)==0)=false:=by rw [beq_eq_false_iff_ne];omega
       clear aE hc aH ha hp0
       go_wp2_with fail
       refine aD.mono ?_
       rintro e w1 ⟨rfl,rfl⟩
       go_wp2_with fail
       refine aA.mono ?_
       rintro e w1 ⟨rfl,rfl⟩
       go_wp2_with fail
       go_ret
       exact ⟨by rw [HV.out];rfl,(Below.refl _ _).alloc (Nat.le_refl _) _⟩
    ·have aG:∀ ty,(Instr.next (.pointer (some ⟨w.heap.size,0,none⟩)) true ty).run Tryz.prog (w.iter s aC)=_:=fun ty=>run_next_end w s aC ty hp
     have HV:Hid (zc7 s.data.toList=true):=by rw [Hid,HB.out,hd.out,List.drop_of_length_le (by simpa using hp)];rfl
     go_wp2
     go_ret
     exact ⟨by rw [HV.out];rfl,(Below.refl _ _).alloc (Nat.le_refl _) _⟩
  ·have HV:Hid (zc7 s.data.toList=false):=by rw [Hid,zc7,aF,decide_eq_false h24];simp
   have aJ:decide ((24:Int)<(s.size:Int))=true:=by simp;omega
   clear aF
   go_enter Tryz.func27,Tryz.ntmps27
   go_wp2
   go_ret
   exact ⟨by rw [HV.out];rfl,Below.refl _ _⟩
end Go.Proofs.YteajibbphcfmeaaGreatDoor
namespace Go.Proofs
open Go.Shelf
def Tryz.lays170_ren:Go.Shelf.Ren:=⟨fun | 170=>179 | n=>n,fun | 70=>195 | 3=>3 | 0=>0 | 72=>198 | 37=>196 | 5=>5 | n=>n,fun | n=>n⟩
theorem Tryz.lays170:Go.Proofs.Lays.n170 Tryz.prog Tryz.lays170_ren:={
 mixed:=by kernel_rfl
 f170:=Tryz.func179.trans (congrArg some (by kernel_rfl))
 t0:=Tryz.underlying0
 a0:=Tryz.isAgg0
 z0:=Tryz.sizeOf0
 v0:=Tryz.zeroValue0
 t3:=Tryz.underlying3
 a3:=Tryz.isAgg3
 z3:=Tryz.sizeOf3
 v3:=Tryz.zeroValue3
 t37:=Tryz.underlying196
 a37:=Tryz.isAgg196
 z37:=Tryz.sizeOf196
 v37:=Tryz.zeroValue196
 t70:=Tryz.underlying195
 a70:=Tryz.isAgg195
 z70:=Tryz.sizeOf195
 v70:=Tryz.zeroValue195
 t72:=Tryz.underlying198
 a72:=Tryz.isAgg198
 z72:=Tryz.sizeOf198
 v72:=Tryz.zeroValue198 }
open Go.RowKit in
theorem Tryz.Builder_Len (B b:Nat) (bs:List Value) (w:World) (h:Lib.IsBuilder 198 5 B b bs w) :
  Calls Tryz.prog 179 #[.pointer (some ⟨b,0,none⟩)] w fun e w'=>e = .returned (.int .i64 bs.length)∧w'=w:=Any.Builder_Len Tryz.lays170 B b bs w h
def Tryz.lays169_ren:Go.Shelf.Ren:=⟨fun | 169=>182 | n=>n,fun | 70=>195 | 9=>9 | 0=>0 | 72=>198 | 37=>196 | 127=>226 | 3=>3 | 5=>5 | n=>n,fun | n=>n⟩
theorem Tryz.lays169:Go.Proofs.Lays.n169 Tryz.prog Tryz.lays169_ren:={
 mixed:=by kernel_rfl
 f169:=Tryz.func182.trans (congrArg some (by kernel_rfl))
 t0:=Tryz.underlying0
 a0:=Tryz.isAgg0
 z0:=Tryz.sizeOf0
 v0:=Tryz.zeroValue0
 t3:=Tryz.underlying3
 a3:=Tryz.isAgg3
 z3:=Tryz.sizeOf3
 v3:=Tryz.zeroValue3
 t9:=Tryz.underlying9
 a9:=Tryz.isAgg9
 z9:=Tryz.sizeOf9
 v9:=Tryz.zeroValue9
 t37:=Tryz.underlying196
 a37:=Tryz.isAgg196
 z37:=Tryz.sizeOf196
 v37:=Tryz.zeroValue196
 t70:=Tryz.underlying195
 a70:=Tryz.isAgg195
 z70:=Tryz.sizeOf195
 v70:=Tryz.zeroValue195
 t72:=Tryz.underlying198
 a72:=Tryz.isAgg198
 z72:=Tryz.sizeOf198
 v72:=Tryz.zeroValue198
 t127:=Tryz.underlying226
 a127:=Tryz.isAgg226
 z127:=Tryz.sizeOf226
 v127:=Tryz.zeroValue226 }
theorem Tryz.Builder_Extra_169:Builder.Extra Tryz.prog Tryz.lays169_ren:={
 sizeBuilder:=by kernel_rfl
 liesBuilder:=by kernel_rfl
 t5:=Tryz.underlying5
 a5:=Tryz.isAgg5
 z5:=Tryz.sizeOf5
 v5:=Tryz.zeroValue5
 infoByte:=by kernel_rfl
 cellsByte:=by kernel_rfl
 sizeByte:=by kernel_rfl
 neB5:=by decide }
open Go.RowKit in
open Go.RowKit in
open Go.RowKit in
theorem Tryz.Builder_String_any (B b:Nat) (l:List UInt8) (w:World) (h:Lib.IsBuilder 198 5 B b (Lib.byteCells l) w) (hBw:B≤w.heap.size) :
  Calls Tryz.prog 182 #[.pointer (some ⟨b,0,none⟩)] w fun e w'=>e = .returned (.string ⟨l.toArray⟩)∧Below B w w':=Any.Builder_String_any Tryz.lays169 Tryz.Builder_Extra_169 B b l w h hBw
open Go.RowKit in
open Go.RowKit in
def Tryz.lays134_ren:Go.Shelf.Ren:=⟨fun | 134=>184 | 129=>207 | n=>n,fun | 53=>120 | 3=>3 | 4=>4 | 46=>211 | 5=>5 | 9=>9 | n=>n,fun | n=>n⟩
theorem Tryz.lays134:Go.Proofs.Lays.n134 Tryz.prog Tryz.lays134_ren:={
 mixed:=by kernel_rfl
 f129:=Tryz.func207.trans (congrArg some (by kernel_rfl))
 f134:=Tryz.func184.trans (congrArg some (by kernel_rfl))
 t3:=Tryz.underlying3
 a3:=Tryz.isAgg3
 z3:=Tryz.sizeOf3
 v3:=Tryz.zeroValue3
 t4:=Tryz.underlying4
 a4:=Tryz.isAgg4
 z4:=Tryz.sizeOf4
 v4:=Tryz.zeroValue4
 t5:=Tryz.underlying5
 a5:=Tryz.isAgg5
 z5:=Tryz.sizeOf5
 v5:=Tryz.zeroValue5
 t9:=Tryz.underlying9
 a9:=Tryz.isAgg9
 z9:=Tryz.sizeOf9
 v9:=Tryz.zeroValue9
 t46:=Tryz.underlying211
 a46:=Tryz.isAgg211
 z46:=Tryz.sizeOf211
 v46:=Tryz.zeroValue211
 t53:=Tryz.underlying120
 a53:=Tryz.isAgg120
 z53:=Tryz.sizeOf120
 v53:=Tryz.zeroValue120 }
theorem Tryz.bits_LeadingZeros64 (x:Int) (w:World) (h0:0≤x) (h1:x≤18446744073709551615) :
  Calls Tryz.prog 184 #[.int .u64 x] w fun e w'=>e = .returned (.int .i64 (64 - (Lib.bitLen x.toNat:Int)))∧w'=w:=Any.bits_LeadingZeros64 Tryz.lays134 x w h0 h1
open Go.RowKit in
def Tryz.lays103_ren:Go.Shelf.Ren:=⟨fun | 103=>123 | 210=>171 | 206=>198 | n=>n,fun | 9=>9 | 4=>4 | 24=>155 | 3=>3 | n=>n,fun | n=>n⟩
theorem Tryz.lays103:Go.Proofs.Lays.n103 Tryz.prog Tryz.lays103_ren:={
 mixed:=by kernel_rfl
 f103:=Tryz.func123.trans (congrArg some (by kernel_rfl))
 f206:=Tryz.func198.trans (congrArg some (by kernel_rfl))
 f210:=Tryz.func171.trans (congrArg some (by kernel_rfl))
 t3:=Tryz.underlying3
 a3:=Tryz.isAgg3
 z3:=Tryz.sizeOf3
 v3:=Tryz.zeroValue3
 t4:=Tryz.underlying4
 a4:=Tryz.isAgg4
 z4:=Tryz.sizeOf4
 v4:=Tryz.zeroValue4
 t9:=Tryz.underlying9
 a9:=Tryz.isAgg9
 z9:=Tryz.sizeOf9
 v9:=Tryz.zeroValue9
 t24:=Tryz.underlying155
 a24:=Tryz.isAgg155
 z24:=Tryz.sizeOf155
 v24:=Tryz.zeroValue155 }
open Go.RowKit in
theorem Tryz.strings_CutPrefix (s p:ByteArray) (w:World) :
  Calls Tryz.prog 123 #[.string s,.string p] w fun e w'=>e = .returned (.tuple #[.string ⟨(Lib.trimPrefix s.data.toList p.data.toList).toArray⟩,.bool (Lib.hasPrefix s.data.toList p.data.toList)])∧w'=w:=Any.strings_CutPrefix Tryz.lays103 s p w
open Go.RowKit in
open Go.RowKit in
open Go.RowKit in
open Go.RowKit in
open Go.RowKit in
open Go.RowKit in
open Go.RowKit in
open Go.RowKit in
open Go.RowKit in
open Go.Lib in
open Go.Lib in
def Tryz.lays283_ren:Go.Shelf.Ren:=⟨fun | 283=>215 | n=>n,fun | 3=>3 | 9=>9 | 4=>4 | n=>n,fun | n=>n⟩
theorem Tryz.lays283:Go.Proofs.Lays.n283 Tryz.prog Tryz.lays283_ren:={
 mixed:=by kernel_rfl
 f283:=Tryz.func215.trans (congrArg some (by kernel_rfl))
 t3:=Tryz.underlying3
 a3:=Tryz.isAgg3
 z3:=Tryz.sizeOf3
 v3:=Tryz.zeroValue3
 t4:=Tryz.underlying4
 a4:=Tryz.isAgg4
 z4:=Tryz.sizeOf4
 v4:=Tryz.zeroValue4
 t9:=Tryz.underlying9
 a9:=Tryz.isAgg9
 z9:=Tryz.sizeOf9
 v9:=Tryz.zeroValue9 }
open Go.Lib in
theorem Tryz.internal_strconv_small (i:Nat) (h:i<100) (w:World) :
  Calls Tryz.prog 215 #[.int .i64 i] w fun e w'=>e = .returned (.string ⟨(Lib.decDigits i).toArray⟩)∧w'=w:=Any.internal_strconv_small Tryz.lays283 i h w
def Tryz.laysM284_ren:Go.Shelf.Ren:=⟨fun | 284=>216 | 129=>207 | 317=>226 | 318=>227 | n=>n,fun | 53=>120 | 3=>3 | 212=>244 | 0=>0 | 4=>4 | 46=>211 | 5=>5 | 9=>9 | n=>n,fun | 17=>6 | n=>n⟩
theorem Tryz.laysM284:Go.Proofs.LaysM.n284 Tryz.prog Tryz.laysM284_ren:={
 mixed:=by kernel_rfl
 f129:=Tryz.func207.trans (congrArg some (by kernel_rfl))
 f284:=Tryz.func216.trans (congrArg some (by kernel_rfl))
 f317:=Tryz.func226.trans (congrArg some (by kernel_rfl))
 f318:=Tryz.func227.trans (congrArg some (by kernel_rfl))
 t0:=Tryz.underlying0
 a0:=Tryz.isAgg0
 z0:=Tryz.sizeOf0
 v0:=Tryz.zeroValue0
 t3:=Tryz.underlying3
 a3:=Tryz.isAgg3
 z3:=Tryz.sizeOf3
 v3:=Tryz.zeroValue3
 t4:=Tryz.underlying4
 a4:=Tryz.isAgg4
 z4:=Tryz.sizeOf4
 v4:=Tryz.zeroValue4
 t5:=Tryz.underlying5
 a5:=Tryz.isAgg5
 z5:=Tryz.sizeOf5
 v5:=Tryz.zeroValue5
 t9:=Tryz.underlying9
 a9:=Tryz.isAgg9
 z9:=Tryz.sizeOf9
 v9:=Tryz.zeroValue9
 t46:=Tryz.underlying211
 a46:=Tryz.isAgg211
 z46:=Tryz.sizeOf211
 v46:=Tryz.zeroValue211
 t53:=Tryz.underlying120
 a53:=Tryz.isAgg120
 z53:=Tryz.sizeOf120
 v53:=Tryz.zeroValue120
 t212:=Tryz.underlying244
 a212:=Tryz.isAgg244
 z212:=Tryz.sizeOf244
 v212:=Tryz.zeroValue244
 g17:=by kernel_rfl
 i0:=by kernel_rfl
 i3:=by kernel_rfl
 i4:=by kernel_rfl
 i5:=by kernel_rfl
 i9:=by kernel_rfl
 i46:=by kernel_rfl
 i53:=by kernel_rfl
 i212:=by kernel_rfl
 m17:=by kernel_rfl }
open Go.Lib in
theorem Tryz.internal_strconv_numDigits (u:Nat) (h1:1≤u) (h2:u<18446744073709551616) (w:World) (htab:Lib.TabIs Tryz.prog w "internal/strconv.uint64pow10" .u64 Lib.pow10Tab) :
  Calls Tryz.prog 216 #[.int .u64 u] w fun e w'=>e = .returned (.int .i64 (Lib.nDigits u))∧w'=w:=Any.internal_strconv_numDigits Tryz.laysM284 u h1 h2 w htab
def Tryz.lays285_ren:Go.Shelf.Ren:=⟨fun | 285=>217 | n=>n,fun | 37=>196 | 53=>120 | 3=>3 | 4=>4 | 51=>239 | 9=>9 | 5=>5 | 0=>0 | n=>n,fun | n=>n⟩
theorem Tryz.lays285:Go.Proofs.Lays.n285 Tryz.prog Tryz.lays285_ren:={
 mixed:=by kernel_rfl
 f285:=Tryz.func217.trans (congrArg some (by kernel_rfl))
 t0:=Tryz.underlying0
 a0:=Tryz.isAgg0
 z0:=Tryz.sizeOf0
 v0:=Tryz.zeroValue0
 t3:=Tryz.underlying3
 a3:=Tryz.isAgg3
 z3:=Tryz.sizeOf3
 v3:=Tryz.zeroValue3
 t4:=Tryz.underlying4
 a4:=Tryz.isAgg4
 z4:=Tryz.sizeOf4
 v4:=Tryz.zeroValue4
 t5:=Tryz.underlying5
 a5:=Tryz.isAgg5
 z5:=Tryz.sizeOf5
 v5:=Tryz.zeroValue5
 t9:=Tryz.underlying9
 a9:=Tryz.isAgg9
 z9:=Tryz.sizeOf9
 v9:=Tryz.zeroValue9
 t37:=Tryz.underlying196
 a37:=Tryz.isAgg196
 z37:=Tryz.sizeOf196
 v37:=Tryz.zeroValue196
 t51:=Tryz.underlying239
 a51:=Tryz.isAgg239
 z51:=Tryz.sizeOf239
 v51:=Tryz.zeroValue239
 t53:=Tryz.underlying120
 a53:=Tryz.isAgg120
 z53:=Tryz.sizeOf120
 v53:=Tryz.zeroValue120 }
open Go.RowKit Go.Sort Go.Lib in
theorem Tryz.internal_strconv_formatBase10 (blk off cap:Nat) (u:Nat) (d:Array UInt8) (w:World) (hH:Holds (fun (b:UInt8)=>Value.int .u8 (b.toNat:Int)) w blk off d) (hu:u<10 ^ d.size) (hu64:u<18446744073709551616) (hsz:d.size<4611686018427387904) :
  Calls Tryz.prog 217 #[.slice (some ⟨blk,off,none⟩) d.size cap,.int .u64 u] w fun e w'=>
   e = .returned (.tuple #[])∧∃ (n v':Nat) (dk:Array UInt8),w'=(putRow (fun (b:UInt8)=>Value.int .u8 (b.toNat:Int)) w blk off dk).drewN n∧FmtInv d.size u 0 v' dk:=Any.internal_strconv_formatBase10 Tryz.lays285 blk off cap u d w hH hu hu64 hsz
def Tryz.lays217_ren:Go.Shelf.Ren:=⟨fun | 217=>211 | 266=>224 | n=>n,fun | 9=>9 | 5=>5 | 3=>3 | n=>n,fun | n=>n⟩
theorem Tryz.lays217:Go.Proofs.Lays.n217 Tryz.prog Tryz.lays217_ren:={
 mixed:=by kernel_rfl
 f217:=Tryz.func211.trans (congrArg some (by kernel_rfl))
 f266:=Tryz.func224.trans (congrArg some (by kernel_rfl))
 t3:=Tryz.underlying3
 a3:=Tryz.isAgg3
 z3:=Tryz.sizeOf3
 v3:=Tryz.zeroValue3
 t5:=Tryz.underlying5
 a5:=Tryz.isAgg5
 z5:=Tryz.sizeOf5
 v5:=Tryz.zeroValue5
 t9:=Tryz.underlying9
 a9:=Tryz.isAgg9
 z9:=Tryz.sizeOf9
 v9:=Tryz.zeroValue9 }
open Go.RowKit Go.Lib in
theorem Tryz.stringslite_IndexByte (s:ByteArray) (c:Int) (w:World) :
  Calls Tryz.prog 211 #[.string s,.int .u8 c] w fun e w'=>e = .returned (.int .i64 (Lib.indexByte s.data.toList c.toNat.toUInt8))∧w'=w:=Any.stringslite_IndexByte Tryz.lays217 s c w
open Go.RowKit Go.Lib in
open Go.RowKit Go.Lib in
open Go.RowKit Go.Lib in
def Tryz.lays219_ren:Go.Shelf.Ren:=⟨fun | 219=>197 | 217=>211 | 225=>212 | 224=>213 | 267=>214 | 266=>224 | 314=>225 | n=>n,fun | 9=>9 | 3=>3 | 4=>4 | 5=>5 | 46=>211 | 146=>240 | 51=>239 | n=>n,fun | 1=>2 | n=>n⟩
open Go.RowKit Go.Lib in
open Go.RowKit Go.Lib in
open Go.RowKit Go.Lib in
open Go.RowKit Go.Lib in
open Go.RowKit Go.Lib in
open Go.RowKit Go.Lib in
open Go.RowKit Go.Lib in
open Go.RowKit Go.Lib in
open Go.RowKit Go.Lib in
def Tryz.lays264_ren:Go.Shelf.Ren:=⟨fun | 264=>194 | n=>n,fun | 53=>120 | 46=>211 | n=>n,fun | n=>n⟩
theorem Tryz.lays264:Go.Proofs.Lays.n264 Tryz.prog Tryz.lays264_ren:={
 mixed:=by kernel_rfl
 f264:=Tryz.func194.trans (congrArg some (by kernel_rfl))
 t46:=Tryz.underlying211
 a46:=Tryz.isAgg211
 z46:=Tryz.sizeOf211
 v46:=Tryz.zeroValue211
 t53:=Tryz.underlying120
 a53:=Tryz.isAgg120
 z53:=Tryz.sizeOf120
 v53:=Tryz.zeroValue120 }
open Go.RowKit Go.Lib in
theorem Tryz.bits_Mul64 (x y:Nat) (hx:x<18446744073709551616) (hy:y<18446744073709551616) (w:World) :
  Calls Tryz.prog 194 #[.int .u64 x,.int .u64 y] w fun e w'=>e = .returned (.tuple #[.int .u64 ((x*y / 18446744073709551616:Nat):Int),.int .u64 ((x*y % 18446744073709551616:Nat):Int)])∧w'=w:=Any.bits_Mul64 Tryz.lays264 x y hx hy w
open Go.RowKit Go.Lib in
def Tryz.lays105_ren:Go.Shelf.Ren:=⟨fun | 105=>181 | 212=>204 | 99=>205 | 165=>206 | 166=>180 | 170=>179 | 169=>182 | 263=>220 | 264=>194 | 206=>198 | 240=>203 | 241=>221 | 276=>219 | 277=>230 | n=>n,fun | 9=>9 | 3=>3 | 4=>4 | 20=>20 | 0=>0 | 46=>211 | 109=>223 | 5=>5 | 72=>198 | 76=>202 | 51=>239 | 146=>240 | 53=>120 | 148=>175 | 70=>195 | 37=>196 | 75=>201 | 127=>226 | 164=>237 | 80=>160 | n=>n,fun | n=>n⟩
theorem Tryz.lays105:Go.Proofs.Lays.n105 Tryz.prog Tryz.lays105_ren:={
 mixed:=by kernel_rfl
 f99:=Tryz.func205.trans (congrArg some (by kernel_rfl))
 f105:=Tryz.func181.trans (congrArg some (by kernel_rfl))
 f165:=Tryz.func206.trans (congrArg some (by kernel_rfl))
 f166:=Tryz.func180.trans (congrArg some (by kernel_rfl))
 f169:=Tryz.func182.trans (congrArg some (by kernel_rfl))
 f170:=Tryz.func179.trans (congrArg some (by kernel_rfl))
 f206:=Tryz.func198.trans (congrArg some (by kernel_rfl))
 f212:=Tryz.func204.trans (congrArg some (by kernel_rfl))
 f240:=Tryz.func203.trans (congrArg some (by kernel_rfl))
 f241:=Tryz.func221.trans (congrArg some (by kernel_rfl))
 f263:=Tryz.func220.trans (congrArg some (by kernel_rfl))
 f264:=Tryz.func194.trans (congrArg some (by kernel_rfl))
 f276:=Tryz.func219.trans (congrArg some (by kernel_rfl))
 f277:=Tryz.func230.trans (congrArg some (by kernel_rfl))
 t0:=Tryz.underlying0
 a0:=Tryz.isAgg0
 z0:=Tryz.sizeOf0
 v0:=Tryz.zeroValue0
 t3:=Tryz.underlying3
 a3:=Tryz.isAgg3
 z3:=Tryz.sizeOf3
 v3:=Tryz.zeroValue3
 t4:=Tryz.underlying4
 a4:=Tryz.isAgg4
 z4:=Tryz.sizeOf4
 v4:=Tryz.zeroValue4
 t5:=Tryz.underlying5
 a5:=Tryz.isAgg5
 z5:=Tryz.sizeOf5
 v5:=Tryz.zeroValue5
 t9:=Tryz.underlying9
 a9:=Tryz.isAgg9
 z9:=Tryz.sizeOf9
 v9:=Tryz.zeroValue9
 t20:=Tryz.underlying20
 a20:=Tryz.isAgg20
 z20:=Tryz.sizeOf20
 v20:=Tryz.zeroValue20
 t37:=Tryz.underlying196
 a37:=Tryz.isAgg196
 z37:=Tryz.sizeOf196
 v37:=Tryz.zeroValue196
 t46:=Tryz.underlying211
 a46:=Tryz.isAgg211
 z46:=Tryz.sizeOf211
 v46:=Tryz.zeroValue211
 t51:=Tryz.underlying239
 a51:=Tryz.isAgg239
 z51:=Tryz.sizeOf239
 v51:=Tryz.zeroValue239
 t53:=Tryz.underlying120
 a53:=Tryz.isAgg120
 z53:=Tryz.sizeOf120
 v53:=Tryz.zeroValue120
 t70:=Tryz.underlying195
 a70:=Tryz.isAgg195
 z70:=Tryz.sizeOf195
 v70:=Tryz.zeroValue195
 t72:=Tryz.underlying198
 a72:=Tryz.isAgg198
 z72:=Tryz.sizeOf198
 v72:=Tryz.zeroValue198
 t75:=Tryz.underlying201
 a75:=Tryz.isAgg201
 z75:=Tryz.sizeOf201
 v75:=Tryz.zeroValue201
 t76:=Tryz.underlying202
 a76:=Tryz.isAgg202
 z76:=Tryz.sizeOf202
 v76:=Tryz.zeroValue202
 t109:=Tryz.underlying223
 a109:=Tryz.isAgg223
 z109:=Tryz.sizeOf223
 v109:=Tryz.zeroValue223
 t127:=Tryz.underlying226
 a127:=Tryz.isAgg226
 z127:=Tryz.sizeOf226
 v127:=Tryz.zeroValue226
 t146:=Tryz.underlying240
 a146:=Tryz.isAgg240
 z146:=Tryz.sizeOf240
 v146:=Tryz.zeroValue240
 t148:=Tryz.underlying175
 a148:=Tryz.isAgg175
 z148:=Tryz.sizeOf175
 v148:=Tryz.zeroValue175
 t164:=Tryz.underlying237
 a164:=Tryz.isAgg237
 z164:=Tryz.sizeOf237
 v164:=Tryz.zeroValue237 }
theorem Tryz.Builder_Extra_105:Builder.Extra Tryz.prog Tryz.lays105_ren:={
 sizeBuilder:=by kernel_rfl
 liesBuilder:=by kernel_rfl
 t5:=Tryz.underlying5
 a5:=Tryz.isAgg5
 z5:=Tryz.sizeOf5
 v5:=Tryz.zeroValue5
 infoByte:=by kernel_rfl
 cellsByte:=by kernel_rfl
 sizeByte:=by kernel_rfl
 neB5:=by decide }
open Go.RowKit Go.Lib in
open Go.RowKit Go.Lib in
open Go.RowKit Go.Lib in
open Go.RowKit Go.Lib in
open Go.RowKit Go.Lib in
open Go.RowKit Go.Lib in
open Go.RowKit Go.Lib in
theorem Tryz.strings_Repeat (s:ByteArray) (c:Nat) (w:World) (hc:c≤9223372036854775807) (hlen:s.size*c≤140737488355328) :
  Calls Tryz.prog 181 #[.string s,.int .i64 c] w fun e w'=>e = .returned (.string ⟨(Lib.repeatL s.data.toList c).toArray⟩)∧Below w.heap.size w w':=Any.strings_Repeat Tryz.lays105 Tryz.Builder_Extra_105 s c w hc hlen
open Go.RowKit Go.Lib Go.Sort in
def Tryz.lays29_ren:Go.Shelf.Ren:=⟨fun | 29=>199 | n=>n,fun | 22=>120 | 3=>3 | 4=>4 | 25=>211 | 54=>231 | 0=>0 | 5=>5 | n=>n,fun | 1=>3 | n=>n⟩
theorem Tryz.lays29:Go.Proofs.Lays7.n29 Tryz.prog Tryz.lays29_ren:={
 mixed:=by kernel_rfl
 f29:=Tryz.func199.trans (congrArg some (by kernel_rfl))
 t0:=Tryz.underlying0
 a0:=Tryz.isAgg0
 z0:=Tryz.sizeOf0
 v0:=Tryz.zeroValue0
 i0:=by kernel_rfl
 t3:=Tryz.underlying3
 a3:=Tryz.isAgg3
 z3:=Tryz.sizeOf3
 v3:=Tryz.zeroValue3
 i3:=by kernel_rfl
 t4:=Tryz.underlying4
 a4:=Tryz.isAgg4
 z4:=Tryz.sizeOf4
 v4:=Tryz.zeroValue4
 i4:=by kernel_rfl
 t5:=Tryz.underlying5
 a5:=Tryz.isAgg5
 z5:=Tryz.sizeOf5
 v5:=Tryz.zeroValue5
 i5:=by kernel_rfl
 t22:=Tryz.underlying120
 a22:=Tryz.isAgg120
 z22:=Tryz.sizeOf120
 v22:=Tryz.zeroValue120
 i22:=by kernel_rfl
 t25:=Tryz.underlying211
 a25:=Tryz.isAgg211
 z25:=Tryz.sizeOf211
 v25:=Tryz.zeroValue211
 i25:=by kernel_rfl
 t54:=Tryz.underlying231
 a54:=Tryz.isAgg231
 z54:=Tryz.sizeOf231
 g1:=by kernel_rfl }
end Go.Proofs
