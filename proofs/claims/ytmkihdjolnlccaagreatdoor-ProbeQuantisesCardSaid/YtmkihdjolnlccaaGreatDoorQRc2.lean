/- The contract of probe's Calibrated at valid marks of different codes. -/
import Derived.Test.YtmkihdjolnlccaaGreatDoorQRv1
namespace Go.Proofs.YtmkihdjolnlccaaGreatDoor
open Go.RowKit Bn
open Flt
def zqY (a st z:Int) (g o:ByteArray) (c:Int):Prop:=∀ W,Tabs W→Calls Tryz.prog 90 #[.agg #[.int .i64 a,.int .i64 st,.int .i64 z,.string g,.string o],.int .i64 c] W fun e w'=>e = .returned (.int .i64 0)∧Below W.heap.size W w'
def zqW (s:ByteArray):Prop:=∀ W,Tabs W→Calls Tryz.prog 82 #[.string s] W fun e w'=>e = .returned (.int .i64 0)∧Below W.heap.size W w'
def ztb (a st z:Int) (g o:ByteArray) (c:Int) (y:Nat):Prop:=∀ W,Calls Tryz.prog 80 #[.agg #[.int .i64 a,.int .i64 st,.int .i64 z,.string g,.string o],.int .i64 c] W fun e w'=>e = .returned (.float .f32 y)∧Below W.heap.size W w'
def zoU (y:Nat) (s:ByteArray):Prop:=∀ W,Tabs W→Calls Tryz.prog 92 #[.float .f32 y] W fun e w'=>e = .returned (.string s)∧Below W.heap.size W w'
set_option maxHeartbeats 16000000 in
set_option maxRecDepth 100000 in
theorem zmo (a st z c1 c2 sg:Int) (g o v1 v2 s1 s2 gs ot:ByteArray) (y1 y2:Nat) (n1 n2 p1 p2 ru df sl pr off:Q) (R:Value) (w:World) (hT:Tabs w)
  (k1:zqY a st z g o c1) (k2:zqY a st z g o c2) (t1:zqW v1) (t2:zqW v2) (hne:(c1==c2)=false)
  (u1:ztb a st z g o c1 y1) (u2:ztb a st z g o c2 y2) (x1:zoU y1 s1) (x2:zoU y2 s2) (i1:zeD s1 n1) (i2:zeD v1 p1) (i3:zeD s2 n2) (i4:zeD v2 p2)
  (m1:zen n2 n1 ru) (m2:zen p2 p1 df) (m3:zjz df ru sl) (m4:zjN sl sg) (m5:zfr sl gs) (m6:zhw sl n1 pr) (m7:zen p1 pr off) (m8:zfr off ot)
  (hbad:sg≤0→R = .tuple #[.agg #[.int .i64 0,.int .i64 0,.int .i64 0,.string { data:=#[] },.string { data:=#[] }],.int .i64 3]) (hgood:0<sg→R = .tuple #[.agg #[.int .i64 a,.int .i64 st,.int .i64 z,.string gs,.string ot],.int .i64 0]) :
  Calls Tryz.prog 40 #[.agg #[.int .i64 a,.int .i64 st,.int .i64 z,.string g,.string o],.agg #[.int .i64 c1,.string v1],.agg #[.int .i64 c2,.string v2]] w fun e w'=>e = .returned R∧Below w.heap.size w w':=by
 have hb1:Below w.heap.size w ((((w.alloc (.cells #[.int .i64 a,.int .i64 st,.int .i64 z,.string g,.string o] 33)).alloc (.cells #[.int .i64 c1,.string v1] 76)).alloc (.cells #[.int .i64 c2,.string v2] 76)).alloc (.cells #[.int .i64 0,.int .i64 0,.int .i64 0,.string { data:=#[] },.string { data:=#[] }] 33)):=((((Below.refl _ _).alloc (Nat.le_refl _) _).alloc (by simp) _).alloc (by simp;omega) _).alloc (by simp;omega) _
 have a1:CBlk ((((w.alloc (.cells #[.int .i64 a,.int .i64 st,.int .i64 z,.string g,.string o] 33)).alloc (.cells #[.int .i64 c1,.string v1] 76)).alloc (.cells #[.int .i64 c2,.string v2] 76)).alloc (.cells #[.int .i64 0,.int .i64 0,.int .i64 0,.string { data:=#[] },.string { data:=#[] }] 33)) (w.heap.size) #[.int .i64 a,.int .i64 st,.int .i64 z,.string g,.string o] 33:=(((CBlk.new w _ _ _ rfl).alloc _).alloc _).alloc _
 have m1':CBlk ((((w.alloc (.cells #[.int .i64 a,.int .i64 st,.int .i64 z,.string g,.string o] 33)).alloc (.cells #[.int .i64 c1,.string v1] 76)).alloc (.cells #[.int .i64 c2,.string v2] 76)).alloc (.cells #[.int .i64 0,.int .i64 0,.int .i64 0,.string { data:=#[] },.string { data:=#[] }] 33)) (w.heap.size+1) #[.int .i64 c1,.string v1] 76:=((CBlk.new _ _ _ _ (by simp)).alloc _).alloc _
 have n1':CBlk ((((w.alloc (.cells #[.int .i64 a,.int .i64 st,.int .i64 z,.string g,.string o] 33)).alloc (.cells #[.int .i64 c1,.string v1] 76)).alloc (.cells #[.int .i64 c2,.string v2] 76)).alloc (.cells #[.int .i64 0,.int .i64 0,.int .i64 0,.string { data:=#[] },.string { data:=#[] }] 33)) (w.heap.size+1+1) #[.int .i64 c2,.string v2] 76:=(CBlk.new _ _ _ _ (by simp)).alloc _
 have r1:CBlk ((((w.alloc (.cells #[.int .i64 a,.int .i64 st,.int .i64 z,.string g,.string o] 33)).alloc (.cells #[.int .i64 c1,.string v1] 76)).alloc (.cells #[.int .i64 c2,.string v2] 76)).alloc (.cells #[.int .i64 0,.int .i64 0,.int .i64 0,.string { data:=#[] },.string { data:=#[] }] 33)) (w.heap.size+1+1+1) #[.int .i64 0,.int .i64 0,.int .i64 0,.string { data:=#[] },.string { data:=#[] }] 33:=CBlk.new _ _ _ _ (by simp)
 have C1:=Lib.hid k1
 have C2:=Lib.hid k2
 have K1:=Lib.hid t1
 have K2:=Lib.hid t2
 have U1:=Lib.hid u1
 have U2:=Lib.hid u2
 have X1:=Lib.hid x1
 have X2:=Lib.hid x2
 have I1:=Lib.hid i1
 have I2:=Lib.hid i2
 have I3:=Lib.hid i3
 have I4:=Lib.hid i4
 have H1:=Lib.hid m1
 have H2:=Lib.hid m2
 have H3:=Lib.hid m3
 have H4:=Lib.hid m4
 have H5:=Lib.hid m5
 have H6:=Lib.hid m6
 have H7:=Lib.hid m7
 have H8:=Lib.hid m8
 have HBAD:=Lib.hid hbad
 have HGOOD:=Lib.hid hgood
 clear k1 k2 t1 t2 u1 u2 x1 x2 i1 i2 i3 i4 m1 m2 m3 m4 m5 m6 m7 m8 hbad hgood
 have m1:=m1'
 have k1:=n1'
 clear m1' n1'
 go_enter Tryz.func40,Tryz.ntmps40
 go_wp2_with fail
 generalize ((((w.alloc (.cells #[.int .i64 a,.int .i64 st,.int .i64 z,.string g,.string o] 33)).alloc (.cells #[.int .i64 c1,.string v1] 76)).alloc (.cells #[.int .i64 c2,.string v2] 76)).alloc (.cells #[.int .i64 0,.int .i64 0,.int .i64 0,.string { data:=#[] },.string { data:=#[] }] 33))=w1 at *
 have hT1:=hT.later hb1
 have hD1:Tabs w1.drew:=hT1.later (Below.drew (Below.refl _ _))
 go_region_held3 (fun w'=>w'.cell? ⟨w.heap.size,0,none⟩=some (.int .i64 a)∧w'.cell? ⟨w.heap.size,1,none⟩=some (.int .i64 st)∧w'.cell? ⟨w.heap.size,2,none⟩=some (.int .i64 z)∧w'.cell? ⟨w.heap.size,3,none⟩=some (.string g)∧w'.cell? ⟨w.heap.size,4,none⟩=some (.string o)∧w'.cell? ⟨w.heap.size+1,0,none⟩=some (.int .i64 c1)∧w'.cell? ⟨w.heap.size+1,1,none⟩=some (.string v1)∧w'.cell? ⟨w.heap.size+1+1,0,none⟩=some (.int .i64 c2)∧w'.cell? ⟨w.heap.size+1+1,1,none⟩=some (.string v2))
  ((refine ⟨?_,?_,?_,?_,?_,?_,?_,?_,?_⟩<;>first | ((with_reducible refine (a5.cell _).trans ?_);rfl) | ((with_reducible refine (m5.cell _).trans ?_);rfl) | ((with_reducible refine (k5.cell _).trans ?_);rfl) | ((with_reducible refine (a4.cell _).trans ?_);rfl) | ((with_reducible refine (m4.cell _).trans ?_);rfl) | ((with_reducible refine (k4.cell _).trans ?_);rfl) | ((with_reducible refine (a3.cell _).trans ?_);rfl) | ((with_reducible refine (m3.cell _).trans ?_);rfl) | ((with_reducible refine (k3.cell _).trans ?_);rfl) | ((with_reducible refine (a2.cell _).trans ?_);rfl) | ((with_reducible refine (m2.cell _).trans ?_);rfl) | ((with_reducible refine (k2.cell _).trans ?_);rfl) | ((with_reducible refine (a1.cell _).trans ?_);rfl) | ((with_reducible refine (m1.cell _).trans ?_);rfl) | ((with_reducible refine (k1.cell _).trans ?_);rfl) | ((with_reducible refine ((a5.alloc _).cell _).trans ?_);rfl) | ((with_reducible refine ((m5.alloc _).cell _).trans ?_);rfl) | ((with_reducible refine ((k5.alloc _).cell _).trans ?_);rfl) | ((with_reducible refine (a1.drew.cell _).trans ?_);rfl) | ((with_reducible refine (m1.drew.cell _).trans ?_);rfl) | ((with_reducible refine (k1.drew.cell _).trans ?_);rfl)))
  (first
   |(go_at_call 64;refine (zj9 w5 _ _ rfl).mono ?_;rintro e w6 ⟨rfl,rfl⟩)
   |(go_at_call 82;refine (K2.out w4 hT4).mono ?_;rintro e w5 ⟨rfl,hb5⟩;have hT5:=hT4.later hb5;have a5:=a4.below hb5 a4.lt;have m5:=m4.below hb5 m4.lt;have k5:=k4.below hb5 k4.lt;have r5:=r4.below hb5 r4.lt)
   |(go_at_call 90;refine (C2.out w3 hT3).mono ?_;rintro e w4 ⟨rfl,hb4⟩;have hT4:=hT3.later hb4;have a4:=a3.below hb4 a3.lt;have m4:=m3.below hb4 m3.lt;have k4:=k3.below hb4 k3.lt;have r4:=r3.below hb4 r3.lt)
   |(go_at_call 82;refine (K1.out w2 hT2).mono ?_;rintro e w3 ⟨rfl,hb3⟩;have hT3:=hT2.later hb3;have a3:=a2.below hb3 a2.lt;have m3:=m2.below hb3 m2.lt;have k3:=k2.below hb3 k2.lt;have r3:=r2.below hb3 r2.lt)
   |(go_at_call 90;refine (C1.out w1.drew hD1).mono ?_;rintro e w2 ⟨rfl,hb2'⟩;have hb2:Below w1.heap.size w1 w2:=⟨hb2'.os,hb2'.tape,hb2'.output,hb2'.size,hb2'.block⟩;clear hb2';have hT2:=hT1.later hb2;have a2:=a1.below hb2 a1.lt;have m2:=m1.below hb2 m1.lt;have k2:=k1.below hb2 k1.lt;have r2:=r1.below hb2 r1.lt))
 clear C1 C2 K1 K2
 have hB2:=hb1.trans (hb2.mono hb1.size)
 have hB3:=hB2.trans (hb3.mono hB2.size)
 have hB4:=hB3.trans (hb4.mono hB3.size)
 have hB5:=hB4.trans (hb5.mono hB4.size)
 have hB6:Below w.heap.size w (w5.alloc (.cells #[.int .i64 0,.int .i64 0,.int .i64 0,.int .i64 0] 30)):=hB5.alloc hB5.size _
 have a6:=a5.alloc (.cells #[.int .i64 0,.int .i64 0,.int .i64 0,.int .i64 0] 30)
 have m6:=m5.alloc (.cells #[.int .i64 0,.int .i64 0,.int .i64 0,.int .i64 0] 30)
 have k6:=k5.alloc (.cells #[.int .i64 0,.int .i64 0,.int .i64 0,.int .i64 0] 30)
 have r6:=r5.alloc (.cells #[.int .i64 0,.int .i64 0,.int .i64 0,.int .i64 0] 30)
 generalize w5.alloc (.cells #[.int .i64 0,.int .i64 0,.int .i64 0,.int .i64 0] 30)=w6 at *
 clear hb1 hb2 hb3 hb4 hb5 hB2 hB3 hB4 hB5 a1 a2 a3 a4 a5 m1 m2 m3 m4 m5 k1 k2 k3 k4 k5 r1 r2 r3 r4 r5 hT1 hT2 hT3 hT4 hT5 hD1
 have hT6:=hT.later hB6
 have y0':=m6.cell 0
 have y1':=k6.cell 0
 go_wp2_with fail
 clear y0' y1'
 obtain ⟨G6,hG6⟩:∃ g,g=w6.heap.size:=⟨_,rfl⟩
 have le6:w.heap.size≤G6:=by rw [hG6];exact hB6.size
 have lt6_a6:w.heap.size<G6:=by rw [hG6];exact a6.lt
 have lt6_m6:w.heap.size+1<G6:=by rw [hG6];exact m6.lt
 have lt6_k6:w.heap.size+1+1<G6:=by rw [hG6];exact k6.lt
 have lt6_r6:w.heap.size+1+1+1<G6:=by rw [hG6];exact r6.lt
 obtain ⟨Inv6,hInv6⟩:∃ I:Array Bool→Act→World→Prop,I=(fun listed ac W=>∃ (b0 b1 b2 b3 b4 b5 b6 b7 b8 b9 b10 b11 b12:Bool) (u44 u45 u46 u47 u48 u49 u50 u51 u52 u9 u10:Value) (A6_5:Option Addr) (n6_5 c6_5:Nat) (A6_5':Option Addr) (n6_5' c6_5':Nat) (A6_8:Option Addr) (n6_8 c6_8:Nat) (A6_8':Option Addr) (n6_8' c6_8':Nat) (j6_9:Nat) (j6_10:Nat),listed=#[b0,b1,b2,b3,b4,b5,b6,b7,b8,b9,b10,b11,b12]∧ac={ tmps:=#[.agg #[.int .i64 a,.int .i64 st,.int .i64 z,.string g,.string o],.agg #[.int .i64 c1,.string v1],.agg #[.int .i64 c2,.string v2],.pointer (some ⟨w.heap.size,0,none⟩),.pointer (some ⟨w.heap.size+1,0,none⟩),.pointer (some ⟨w.heap.size+1+1,0,none⟩),.pointer (some ⟨w.heap.size+1+1+1,0,none⟩),.int .i64 0,.int .i64 0,u9,u10,undef,undef,undef,undef,undef,undef,undef,.agg #[.int .i64 a,.int .i64 st,.int .i64 z,.string g,.string o],.pointer (some ⟨w.heap.size+1,0,none⟩),.int .i64 c1,.int .i64 0,.pointer (some ⟨w.heap.size+1,1,none⟩),.string v1,.int .i64 0,.agg #[.int .i64 a,.int .i64 st,.int .i64 z,.string g,.string o],.pointer (some ⟨w.heap.size+1+1,0,none⟩),.int .i64 c2,.int .i64 0,.pointer (some ⟨w.heap.size+1+1,1,none⟩),.string v2,.int .i64 0,.slice (some ⟨w5.heap.size,0,none⟩) 4 4,.int .i64 0,.int .i64 0,.bool false,undef,undef,.pointer (some ⟨w.heap.size+1,0,none⟩),.int .i64 c1,.pointer (some ⟨w.heap.size+1+1,0,none⟩),.int .i64 c2,.bool false,undef,u44,u45,u46,u47,u48,u49,u50,u51,u52,undef,undef,undef,undef,undef,undef,undef,undef,undef,undef,undef,undef,undef,undef,undef,undef,undef,undef,undef,undef,undef,undef,undef,undef,undef,undef,undef,undef,undef,undef,undef,undef,undef,undef,undef,undef,undef,undef,undef,undef,undef,undef,undef,undef,undef],defers:=[] }∧G6≤W.heap.size∧Below w.heap.size w W∧CBlk W (w.heap.size) #[.int .i64 a,.int .i64 st,.int .i64 z,.string g,.string o] 33∧CBlk W (w.heap.size+1) #[.int .i64 c1,.string v1] 76∧CBlk W (w.heap.size+1+1) #[.int .i64 c2,.string v2] 76∧CBlk W (w.heap.size+1+1+1) #[.int .i64 0,.int .i64 0,.int .i64 0,.string { data:=#[] },.string { data:=#[] }] 33∧(b0=true→u44 = .agg #[.int .i64 a,.int .i64 st,.int .i64 z,.string g,.string o])∧(b1=true→u45 = .pointer (some ⟨w.heap.size+1,0,none⟩))∧(b2=true→u46 = .int .i64 c1)∧(b3=true→u47 = .float .f32 y1)∧(b4=true→u48 = .string s1)∧(b5=true→u49 = .agg #[.bool n1.neg,.slice A6_5 n6_5 c6_5,.slice A6_5' n6_5' c6_5']∧RatD W W.heap.size (.agg #[.bool n1.neg,.slice A6_5 n6_5 c6_5,.slice A6_5' n6_5' c6_5']) ⟨n1.neg,n1.top,n1.bot⟩)∧(b6=true→u50 = .pointer (some ⟨w.heap.size+1,1,none⟩))∧(b7=true→u51 = .string v1)∧(b8=true→u52 = .agg #[.bool p1.neg,.slice A6_8 n6_8 c6_8,.slice A6_8' n6_8' c6_8']∧RatD W W.heap.size (.agg #[.bool p1.neg,.slice A6_8 n6_8 c6_8,.slice A6_8' n6_8' c6_8']) ⟨p1.neg,p1.top,p1.bot⟩)∧(b9=true→u9 = .pointer (some ⟨j6_9,0,none⟩)∧G6≤j6_9∧j6_9<W.heap.size∧(b11=false→CBlk W j6_9 #[.bool false,.slice none 0 0,.slice none 0 0] 142))∧(b10=true→u10 = .pointer (some ⟨j6_10,0,none⟩)∧G6≤j6_10∧j6_10<W.heap.size∧(b12=false→CBlk W j6_10 #[.bool false,.slice none 0 0,.slice none 0 0] 142))∧(b11=true→b9=true∧b5=true∧CBlk W j6_9 #[.bool n1.neg,.slice A6_5 n6_5 c6_5,.slice A6_5' n6_5' c6_5'] 142)∧(b12=true→b10=true∧b8=true∧CBlk W j6_10 #[.bool p1.neg,.slice A6_8 n6_8 c6_8,.slice A6_8' n6_8' c6_8'] 142)∧(b9=true→b10=true→j6_9≠j6_10)):=⟨_,rfl⟩
 have HInv6:=Lib.hid hInv6
 clear hInv6
 refine zc4 (by kernel_rfl) Inv6 (by kernel_rfl) ?_ ?_ ?_
 ·rw [HInv6.out]
  exact ⟨false,false,false,false,false,false,false,false,false,false,false,false,false,undef,undef,undef,undef,undef,undef,undef,undef,undef,undef,undef,none,0,0,none,0,0,none,0,0,none,0,0,0,0,rfl,rfl,(by rw [hG6];exact Nat.le_refl _),hB6.drew,a6.drew,m6.drew,k6.drew,r6.drew,(fun h=>by cases h),(fun h=>by cases h),(fun h=>by cases h),(fun h=>by cases h),(fun h=>by cases h),(fun h=>by cases h),(fun h=>by cases h),(fun h=>by cases h),(fun h=>by cases h),(fun h=>by cases h),(fun h=>by cases h),(fun h=>by cases h),(fun h=>by cases h),(fun h=>by cases h)⟩
 ·intro i op listed ac W ho hI hl hdep
  rw [HInv6.out] at hI
  obtain ⟨b0,b1,b2,b3,b4,b5,b6,b7,b8,b9,b10,b11,b12,u44,u45,u46,u47,u48,u49,u50,u51,u52,u9,u10,A6_5,n6_5,c6_5,A6_5',n6_5',c6_5',A6_8,n6_8,c6_8,A6_8',n6_8',c6_8',j6_9,j6_10,rfl,rfl,hGW,hB6,a6,m6,k6,r6,f0,f1,f2,f3,f4,f5,f6,f7,f8,f9,f10,f11,f12,d9_10⟩:=hI
  clear hG6
  match i,ho,hl,hdep with
  | 0,ho,hl,hdep=>
   have hun:b0=false:=Option.some.inj hl
   obtain rfl:=Option.some.inj ho
   refine zaF ho fun K' hK => ?_
   have x0:=a6.cell 0
   have x1:=a6.cell 1
   have x2:=a6.cell 2
   have x3:=a6.cell 3
   have x4:=a6.cell 4
   go_simp
   refine hK.out _ _ ?_
   rw [HInv6.out]
   exact ⟨true,b1,b2,b3,b4,b5,b6,b7,b8,b9,b10,b11,b12,(.agg #[.int .i64 a,.int .i64 st,.int .i64 z,.string g,.string o]),u45,u46,u47,u48,u49,u50,u51,u52,u9,u10,A6_5,n6_5,c6_5,A6_5',n6_5',c6_5',A6_8,n6_8,c6_8,A6_8',n6_8',c6_8',j6_9,j6_10,rfl,rfl,hGW,hB6,a6,m6,k6,r6,(fun _=>rfl),f1,f2,f3,f4,f5,f6,f7,f8,f9,f10,f11,f12,d9_10⟩
  | 1,ho,hl,hdep=>
   have hun:b1=false:=Option.some.inj hl
   obtain rfl:=Option.some.inj ho
   refine zaF ho fun K' hK => ?_
   go_simp
   refine hK.out _ _ ?_
   rw [HInv6.out]
   exact ⟨b0,true,b2,b3,b4,b5,b6,b7,b8,b9,b10,b11,b12,u44,(.pointer (some ⟨w.heap.size+1,0,none⟩)),u46,u47,u48,u49,u50,u51,u52,u9,u10,A6_5,n6_5,c6_5,A6_5',n6_5',c6_5',A6_8,n6_8,c6_8,A6_8',n6_8',c6_8',j6_9,j6_10,rfl,rfl,hGW,hB6,a6,m6,k6,r6,f0,(fun _=>rfl),f2,f3,f4,f5,f6,f7,f8,f9,f10,f11,f12,d9_10⟩
  | 2,ho,hl,hdep=>
   have hun:b2=false:=Option.some.inj hl
   obtain rfl:=Option.some.inj ho
   have e1:b1=true:=hdep ⟨1,.data⟩ (by simp) rfl
   obtain rfl:=f1 e1
   refine zaF ho fun K' hK => ?_
   have x0:=m6.cell 0
   have x1:=m6.cell 1
   go_simp
   refine hK.out _ _ ?_
   rw [HInv6.out]
   exact ⟨b0,b1,true,b3,b4,b5,b6,b7,b8,b9,b10,b11,b12,u44,(.pointer (some ⟨w.heap.size+1,0,none⟩)),(.int .i64 c1),u47,u48,u49,u50,u51,u52,u9,u10,A6_5,n6_5,c6_5,A6_5',n6_5',c6_5',A6_8,n6_8,c6_8,A6_8',n6_8',c6_8',j6_9,j6_10,rfl,rfl,hGW,hB6,a6,m6,k6,r6,f0,f1,(fun _=>rfl),f3,f4,f5,f6,f7,f8,f9,f10,f11,f12,d9_10⟩
  | 3,ho,hl,hdep=>
   have hun:b3=false:=Option.some.inj hl
   obtain rfl:=Option.some.inj ho
   have e0:b0=true:=hdep ⟨0,.data⟩ (by simp) rfl
   obtain rfl:=f0 e0
   have e2:b2=true:=hdep ⟨2,.data⟩ (by simp) rfl
   obtain rfl:=f2 e2
   refine zaF ho fun K' hK => ?_
   go_simp
   go_at_call 80
   refine (U1.out W).mono ?_
   rintro e W1 ⟨rfl,hb⟩
   refine hK.out _ _ ?_
   rw [HInv6.out]
   exact ⟨b0,b1,b2,true,b4,b5,b6,b7,b8,b9,b10,b11,b12,(.agg #[.int .i64 a,.int .i64 st,.int .i64 z,.string g,.string o]),u45,(.int .i64 c1),(.float .f32 y1),u48,u49,u50,u51,u52,u9,u10,A6_5,n6_5,c6_5,A6_5',n6_5',c6_5',A6_8,n6_8,c6_8,A6_8',n6_8',c6_8',j6_9,j6_10,rfl,rfl,(Nat.le_trans hGW hb.size),(hB6.trans (hb.mono hB6.size)),(a6.below hb a6.lt),(m6.below hb m6.lt),(k6.below hb k6.lt),(r6.below hb r6.lt),f0,f1,f2,(fun _=>rfl),f4,(fun h=>⟨(f5 h).1,(f5 h).2.later hb⟩),f6,f7,(fun h=>⟨(f8 h).1,(f8 h).2.later hb⟩),(fun h=>⟨(f9 h).1,(f9 h).2.1,Nat.lt_of_lt_of_le (f9 h).2.2.1 hb.size,fun h2=>((f9 h).2.2.2 h2).below hb (f9 h).2.2.1⟩),(fun h=>⟨(f10 h).1,(f10 h).2.1,Nat.lt_of_lt_of_le (f10 h).2.2.1 hb.size,fun h2=>((f10 h).2.2.2 h2).below hb (f10 h).2.2.1⟩),(fun h=>⟨(f11 h).1,(f11 h).2.1,(f11 h).2.2.below hb (f11 h).2.2.lt⟩),(fun h=>⟨(f12 h).1,(f12 h).2.1,(f12 h).2.2.below hb (f12 h).2.2.lt⟩),d9_10⟩
  | 4,ho,hl,hdep=>
   have hun:b4=false:=Option.some.inj hl
   obtain rfl:=Option.some.inj ho
   have e3:b3=true:=hdep ⟨3,.data⟩ (by simp) rfl
   obtain rfl:=f3 e3
   refine zaF ho fun K' hK => ?_
   go_simp
   go_at_call 92
   refine (X1.out W (hT.later hB6)).mono ?_
   rintro e W1 ⟨rfl,hb⟩
   refine hK.out _ _ ?_
   rw [HInv6.out]
   exact ⟨b0,b1,b2,b3,true,b5,b6,b7,b8,b9,b10,b11,b12,u44,u45,u46,(.float .f32 y1),(.string s1),u49,u50,u51,u52,u9,u10,A6_5,n6_5,c6_5,A6_5',n6_5',c6_5',A6_8,n6_8,c6_8,A6_8',n6_8',c6_8',j6_9,j6_10,rfl,rfl,(Nat.le_trans hGW hb.size),(hB6.trans (hb.mono hB6.size)),(a6.below hb a6.lt),(m6.below hb m6.lt),(k6.below hb k6.lt),(r6.below hb r6.lt),f0,f1,f2,f3,(fun _=>rfl),(fun h=>⟨(f5 h).1,(f5 h).2.later hb⟩),f6,f7,(fun h=>⟨(f8 h).1,(f8 h).2.later hb⟩),(fun h=>⟨(f9 h).1,(f9 h).2.1,Nat.lt_of_lt_of_le (f9 h).2.2.1 hb.size,fun h2=>((f9 h).2.2.2 h2).below hb (f9 h).2.2.1⟩),(fun h=>⟨(f10 h).1,(f10 h).2.1,Nat.lt_of_lt_of_le (f10 h).2.2.1 hb.size,fun h2=>((f10 h).2.2.2 h2).below hb (f10 h).2.2.1⟩),(fun h=>⟨(f11 h).1,(f11 h).2.1,(f11 h).2.2.below hb (f11 h).2.2.lt⟩),(fun h=>⟨(f12 h).1,(f12 h).2.1,(f12 h).2.2.below hb (f12 h).2.2.lt⟩),d9_10⟩
  | 5,ho,hl,hdep=>
   have hun:b5=false:=Option.some.inj hl
   obtain rfl:=Option.some.inj ho
   have e4:b4=true:=hdep ⟨4,.data⟩ (by simp) rfl
   obtain rfl:=f4 e4
   refine zaF ho fun K' hK => ?_
   go_simp
   go_at_call 91
   refine (I1.out W (hT.later hB6)).mono ?_
   rintro e W1 ⟨A,n,c,A',n',c',rfl,hr,hb⟩
   refine hK.out _ _ ?_
   rw [HInv6.out]
   exact ⟨b0,b1,b2,b3,b4,true,b6,b7,b8,b9,b10,b11,b12,u44,u45,u46,u47,(.string s1),(.agg #[.bool n1.neg,.slice A n c,.slice A' n' c']),u50,u51,u52,u9,u10,A,n,c,A',n',c',A6_8,n6_8,c6_8,A6_8',n6_8',c6_8',j6_9,j6_10,rfl,rfl,(Nat.le_trans hGW hb.size),(hB6.trans (hb.mono hB6.size)),(a6.below hb a6.lt),(m6.below hb m6.lt),(k6.below hb k6.lt),(r6.below hb r6.lt),f0,f1,f2,f3,f4,(fun _=>⟨rfl,hr⟩),f6,f7,(fun h=>⟨(f8 h).1,(f8 h).2.later hb⟩),(fun h=>⟨(f9 h).1,(f9 h).2.1,Nat.lt_of_lt_of_le (f9 h).2.2.1 hb.size,fun h2=>((f9 h).2.2.2 h2).below hb (f9 h).2.2.1⟩),(fun h=>⟨(f10 h).1,(f10 h).2.1,Nat.lt_of_lt_of_le (f10 h).2.2.1 hb.size,fun h2=>((f10 h).2.2.2 h2).below hb (f10 h).2.2.1⟩),(fun h=>by rw [(f11 h).2.1] at hun;cases hun),(fun h=>⟨(f12 h).1,(f12 h).2.1,(f12 h).2.2.below hb (f12 h).2.2.lt⟩),d9_10⟩
  | 6,ho,hl,hdep=>
   have hun:b6=false:=Option.some.inj hl
   obtain rfl:=Option.some.inj ho
   refine zaF ho fun K' hK => ?_
   go_simp
   refine hK.out _ _ ?_
   rw [HInv6.out]
   exact ⟨b0,b1,b2,b3,b4,b5,true,b7,b8,b9,b10,b11,b12,u44,u45,u46,u47,u48,u49,(.pointer (some ⟨w.heap.size+1,1,none⟩)),u51,u52,u9,u10,A6_5,n6_5,c6_5,A6_5',n6_5',c6_5',A6_8,n6_8,c6_8,A6_8',n6_8',c6_8',j6_9,j6_10,rfl,rfl,hGW,hB6,a6,m6,k6,r6,f0,f1,f2,f3,f4,f5,(fun _=>rfl),f7,f8,f9,f10,f11,f12,d9_10⟩
  | 7,ho,hl,hdep=>
   have hun:b7=false:=Option.some.inj hl
   obtain rfl:=Option.some.inj ho
   have e6:b6=true:=hdep ⟨6,.data⟩ (by simp) rfl
   obtain rfl:=f6 e6
   refine zaF ho fun K' hK => ?_
   have x0:=m6.cell 0
   have x1:=m6.cell 1
   go_simp
   refine hK.out _ _ ?_
   rw [HInv6.out]
   exact ⟨b0,b1,b2,b3,b4,b5,b6,true,b8,b9,b10,b11,b12,u44,u45,u46,u47,u48,u49,(.pointer (some ⟨w.heap.size+1,1,none⟩)),(.string v1),u52,u9,u10,A6_5,n6_5,c6_5,A6_5',n6_5',c6_5',A6_8,n6_8,c6_8,A6_8',n6_8',c6_8',j6_9,j6_10,rfl,rfl,hGW,hB6,a6,m6,k6,r6,f0,f1,f2,f3,f4,f5,f6,(fun _=>rfl),f8,f9,f10,f11,f12,d9_10⟩
  | 8,ho,hl,hdep=>
   have hun:b8=false:=Option.some.inj hl
   obtain rfl:=Option.some.inj ho
   have e7:b7=true:=hdep ⟨7,.data⟩ (by simp) rfl
   obtain rfl:=f7 e7
   refine zaF ho fun K' hK => ?_
   go_simp
   go_at_call 91
   refine (I2.out W (hT.later hB6)).mono ?_
   rintro e W1 ⟨A,n,c,A',n',c',rfl,hr,hb⟩
   refine hK.out _ _ ?_
   rw [HInv6.out]
   exact ⟨b0,b1,b2,b3,b4,b5,b6,b7,true,b9,b10,b11,b12,u44,u45,u46,u47,u48,u49,u50,(.string v1),(.agg #[.bool p1.neg,.slice A n c,.slice A' n' c']),u9,u10,A6_5,n6_5,c6_5,A6_5',n6_5',c6_5',A,n,c,A',n',c',j6_9,j6_10,rfl,rfl,(Nat.le_trans hGW hb.size),(hB6.trans (hb.mono hB6.size)),(a6.below hb a6.lt),(m6.below hb m6.lt),(k6.below hb k6.lt),(r6.below hb r6.lt),f0,f1,f2,f3,f4,(fun h=>⟨(f5 h).1,(f5 h).2.later hb⟩),f6,f7,(fun _=>⟨rfl,hr⟩),(fun h=>⟨(f9 h).1,(f9 h).2.1,Nat.lt_of_lt_of_le (f9 h).2.2.1 hb.size,fun h2=>((f9 h).2.2.2 h2).below hb (f9 h).2.2.1⟩),(fun h=>⟨(f10 h).1,(f10 h).2.1,Nat.lt_of_lt_of_le (f10 h).2.2.1 hb.size,fun h2=>((f10 h).2.2.2 h2).below hb (f10 h).2.2.1⟩),(fun h=>⟨(f11 h).1,(f11 h).2.1,(f11 h).2.2.below hb (f11 h).2.2.lt⟩),(fun h=>by rw [(f12 h).2.1] at hun;cases hun),d9_10⟩
  | 9,ho,hl,hdep=>
   have hun:b9=false:=Option.some.inj hl
   obtain rfl:=Option.some.inj ho
   refine zaF ho fun K' hK => ?_
   have hb:Below W.heap.size W (W.alloc (.cells #[.bool false,.slice none 0 0,.slice none 0 0] 142)):=(Below.refl _ _).alloc (Nat.le_refl _) _
   go_simp
   refine hK.out _ _ ?_
   rw [HInv6.out]
   exact ⟨b0,b1,b2,b3,b4,b5,b6,b7,b8,true,b10,b11,b12,u44,u45,u46,u47,u48,u49,u50,u51,u52,(.pointer (some ⟨W.heap.size,0,none⟩)),u10,A6_5,n6_5,c6_5,A6_5',n6_5',c6_5',A6_8,n6_8,c6_8,A6_8',n6_8',c6_8',W.heap.size,j6_10,rfl,rfl,(Nat.le_trans hGW hb.size),(hB6.trans (hb.mono hB6.size)),(a6.below hb a6.lt),(m6.below hb m6.lt),(k6.below hb k6.lt),(r6.below hb r6.lt),f0,f1,f2,f3,f4,(fun h=>⟨(f5 h).1,(f5 h).2.later hb⟩),f6,f7,(fun h=>⟨(f8 h).1,(f8 h).2.later hb⟩),(fun _=>⟨rfl,hGW,by simp,fun _=>CBlk.new W _ _ _ rfl⟩),(fun h=>⟨(f10 h).1,(f10 h).2.1,Nat.lt_of_lt_of_le (f10 h).2.2.1 hb.size,fun h2=>((f10 h).2.2.2 h2).below hb (f10 h).2.2.1⟩),(fun h=>by rw [(f11 h).1] at hun;cases hun),(fun h=>⟨(f12 h).1,(f12 h).2.1,(f12 h).2.2.below hb (f12 h).2.2.lt⟩),(fun _ h=>Nat.ne_of_gt (f10 h).2.2.1)⟩
  | 10,ho,hl,hdep=>
   have hun:b10=false:=Option.some.inj hl
   obtain rfl:=Option.some.inj ho
   refine zaF ho fun K' hK => ?_
   have hb:Below W.heap.size W (W.alloc (.cells #[.bool false,.slice none 0 0,.slice none 0 0] 142)):=(Below.refl _ _).alloc (Nat.le_refl _) _
   go_simp
   refine hK.out _ _ ?_
   rw [HInv6.out]
   exact ⟨b0,b1,b2,b3,b4,b5,b6,b7,b8,b9,true,b11,b12,u44,u45,u46,u47,u48,u49,u50,u51,u52,u9,(.pointer (some ⟨W.heap.size,0,none⟩)),A6_5,n6_5,c6_5,A6_5',n6_5',c6_5',A6_8,n6_8,c6_8,A6_8',n6_8',c6_8',j6_9,W.heap.size,rfl,rfl,(Nat.le_trans hGW hb.size),(hB6.trans (hb.mono hB6.size)),(a6.below hb a6.lt),(m6.below hb m6.lt),(k6.below hb k6.lt),(r6.below hb r6.lt),f0,f1,f2,f3,f4,(fun h=>⟨(f5 h).1,(f5 h).2.later hb⟩),f6,f7,(fun h=>⟨(f8 h).1,(f8 h).2.later hb⟩),(fun h=>⟨(f9 h).1,(f9 h).2.1,Nat.lt_of_lt_of_le (f9 h).2.2.1 hb.size,fun h2=>((f9 h).2.2.2 h2).below hb (f9 h).2.2.1⟩),(fun _=>⟨rfl,hGW,by simp,fun _=>CBlk.new W _ _ _ rfl⟩),(fun h=>⟨(f11 h).1,(f11 h).2.1,(f11 h).2.2.below hb (f11 h).2.2.lt⟩),(fun h=>by rw [(f12 h).1] at hun;cases hun),(fun h _=>Nat.ne_of_lt (f9 h).2.2.1)⟩
  | 11,ho,hl,hdep=>
   have hun:b11=false:=Option.some.inj hl
   obtain rfl:=Option.some.inj ho
   have e9:b9=true:=hdep ⟨9,.data⟩ (by simp) rfl
   obtain ⟨rfl,hGj,hjW,hzz⟩:=f9 e9
   have e5:b5=true:=hdep ⟨5,.data⟩ (by simp) rfl
   obtain ⟨rfl,rr5⟩:=f5 e5
   refine zaF ho fun K' hK => ?_
   have hz:=hzz hun
   have hdt9_10:b10=true→j6_9≠j6_10:=fun h=>d9_10 e9 h
   have z0:=hz.cell 0
   have z1:=hz.cell 1
   have z2:=hz.cell 2
   have zf0:=hz.frozen 0
   have zf1:=hz.frozen 1
   have zf2:=hz.frozen 2
   go_simp
   refine hK.out _ _ ?_
   rw [HInv6.out]
   exact ⟨b0,b1,b2,b3,b4,b5,b6,b7,b8,b9,b10,true,b12,u44,u45,u46,u47,u48,(.agg #[.bool n1.neg,.slice A6_5 n6_5 c6_5,.slice A6_5' n6_5' c6_5']),u50,u51,u52,(.pointer (some ⟨j6_9,0,none⟩)),u10,A6_5,n6_5,c6_5,A6_5',n6_5',c6_5',A6_8,n6_8,c6_8,A6_8',n6_8',c6_8',j6_9,j6_10,rfl,rfl,(by rw [zah];exact hGW),(zao hB6 (Nat.le_trans le6 hGj) _ _ _),(a6.far3 (Nat.ne_of_gt (Nat.lt_of_lt_of_le lt6_a6 hGj)) _ _ _),(m6.far3 (Nat.ne_of_gt (Nat.lt_of_lt_of_le lt6_m6 hGj)) _ _ _),(k6.far3 (Nat.ne_of_gt (Nat.lt_of_lt_of_le lt6_k6 hGj)) _ _ _),(r6.far3 (Nat.ne_of_gt (Nat.lt_of_lt_of_le lt6_r6 hGj)) _ _ _),f0,f1,f2,f3,f4,(fun h=>⟨(f5 h).1,(f5 h).2.res3 hz _ _ _⟩),f6,f7,(fun h=>⟨(f8 h).1,(f8 h).2.res3 hz _ _ _⟩),(fun h=>⟨(f9 h).1,(f9 h).2.1,by rw [zah];exact (f9 h).2.2.1,fun h2=>by cases h2⟩),(fun h=>⟨(f10 h).1,(f10 h).2.1,by rw [zah];exact (f10 h).2.2.1,fun h2=>((f10 h).2.2.2 h2).far3 (hdt9_10 h) _ _ _⟩),(fun _=>⟨e9,e5,hz.set3 _ _ _⟩),(fun h=>⟨(f12 h).1,(f12 h).2.1,(f12 h).2.2.far3 (hdt9_10 (f12 h).1) _ _ _⟩),d9_10⟩
  | 12,ho,hl,hdep=>
   have hun:b12=false:=Option.some.inj hl
   obtain rfl:=Option.some.inj ho
   have e10:b10=true:=hdep ⟨10,.data⟩ (by simp) rfl
   obtain ⟨rfl,hGj,hjW,hzz⟩:=f10 e10
   have e8:b8=true:=hdep ⟨8,.data⟩ (by simp) rfl
   obtain ⟨rfl,rr8⟩:=f8 e8
   refine zaF ho fun K' hK => ?_
   have hz:=hzz hun
   have hdt9_10:b9=true→j6_10≠j6_9:=fun h=>(d9_10 h e10).symm
   have z0:=hz.cell 0
   have z1:=hz.cell 1
   have z2:=hz.cell 2
   have zf0:=hz.frozen 0
   have zf1:=hz.frozen 1
   have zf2:=hz.frozen 2
   go_simp
   refine hK.out _ _ ?_
   rw [HInv6.out]
   exact ⟨b0,b1,b2,b3,b4,b5,b6,b7,b8,b9,b10,b11,true,u44,u45,u46,u47,u48,u49,u50,u51,(.agg #[.bool p1.neg,.slice A6_8 n6_8 c6_8,.slice A6_8' n6_8' c6_8']),u9,(.pointer (some ⟨j6_10,0,none⟩)),A6_5,n6_5,c6_5,A6_5',n6_5',c6_5',A6_8,n6_8,c6_8,A6_8',n6_8',c6_8',j6_9,j6_10,rfl,rfl,(by rw [zah];exact hGW),(zao hB6 (Nat.le_trans le6 hGj) _ _ _),(a6.far3 (Nat.ne_of_gt (Nat.lt_of_lt_of_le lt6_a6 hGj)) _ _ _),(m6.far3 (Nat.ne_of_gt (Nat.lt_of_lt_of_le lt6_m6 hGj)) _ _ _),(k6.far3 (Nat.ne_of_gt (Nat.lt_of_lt_of_le lt6_k6 hGj)) _ _ _),(r6.far3 (Nat.ne_of_gt (Nat.lt_of_lt_of_le lt6_r6 hGj)) _ _ _),f0,f1,f2,f3,f4,(fun h=>⟨(f5 h).1,(f5 h).2.res3 hz _ _ _⟩),f6,f7,(fun h=>⟨(f8 h).1,(f8 h).2.res3 hz _ _ _⟩),(fun h=>⟨(f9 h).1,(f9 h).2.1,by rw [zah];exact (f9 h).2.2.1,fun h2=>((f9 h).2.2.2 h2).far3 (hdt9_10 h) _ _ _⟩),(fun h=>⟨(f10 h).1,(f10 h).2.1,by rw [zah];exact (f10 h).2.2.1,fun h2=>by cases h2⟩),(fun h=>⟨(f11 h).1,(f11 h).2.1,(f11 h).2.2.far3 (hdt9_10 (f11 h).1) _ _ _⟩),(fun _=>⟨e10,e8,hz.set3 _ _ _⟩),d9_10⟩
  | n+13,ho,hl,hdep=>exact absurd ho (by simp)
 ·intro listed ac w7 hI hall
  rw [HInv6.out] at hI
  clear hB6 a6 m6 k6 r6
  obtain ⟨b0,b1,b2,b3,b4,b5,b6,b7,b8,b9,b10,b11,b12,u44,u45,u46,u47,u48,u49,u50,u51,u52,u9,u10,A6_5,n6_5,c6_5,A6_5',n6_5',c6_5',A6_8,n6_8,c6_8,A6_8',n6_8',c6_8',j6_9,j6_10,rfl,rfl,hGW,hB7,a7,m7,k7,r7,f0,f1,f2,f3,f4,f5,f6,f7,f8,f9,f10,f11,f12,d9_10⟩:=hI
  have e0:b0=true:=hall 0 b0 (by decide) rfl
  have e1:b1=true:=hall 1 b1 (by decide) rfl
  have e2:b2=true:=hall 2 b2 (by decide) rfl
  have e3:b3=true:=hall 3 b3 (by decide) rfl
  have e4:b4=true:=hall 4 b4 (by decide) rfl
  have e5:b5=true:=hall 5 b5 (by decide) rfl
  have e6:b6=true:=hall 6 b6 (by decide) rfl
  have e7:b7=true:=hall 7 b7 (by decide) rfl
  have e8:b8=true:=hall 8 b8 (by decide) rfl
  have e9:b9=true:=hall 9 b9 (by decide) rfl
  have e10:b10=true:=hall 10 b10 (by decide) rfl
  have e11:b11=true:=hall 11 b11 (by decide) rfl
  have e12:b12=true:=hall 12 b12 (by decide) rfl
  subst e0
  subst e1
  subst e2
  subst e3
  subst e4
  subst e5
  subst e6
  subst e7
  subst e8
  subst e9
  subst e10
  subst e11
  subst e12
  obtain rfl:=f0 rfl
  obtain rfl:=f1 rfl
  obtain rfl:=f2 rfl
  obtain rfl:=f3 rfl
  obtain rfl:=f4 rfl
  obtain ⟨rfl,qn⟩:=f5 rfl
  obtain rfl:=f6 rfl
  obtain rfl:=f7 rfl
  obtain ⟨rfl,qv⟩:=f8 rfl
  obtain ⟨rfl,hGj6_9,_,_⟩:=f9 rfl
  obtain ⟨rfl,hGj6_10,_,_⟩:=f10 rfl
  have t9:=(f11 rfl).2.2
  have t10:=(f12 rfl).2.2
  clear f0 f1 f2 f3 f4 f5 f6 f7 f8 f9 f10 f11 f12 hall HInv6 lt6_a6 lt6_m6 lt6_k6 lt6_r6
  clear U1 X1 I1 I2
  have qn7:=qn
  have qv7:=qv
  have t97:=t9
  have t107:=t10
  clear qn qv t9 t10 hT6
  go_wp2_with fail
  obtain ⟨G7,hG7⟩:∃ g,g=w7.heap.size:=⟨_,rfl⟩
  have le7:w.heap.size≤G7:=by rw [hG7];exact hB7.size
  have lt7_a7:w.heap.size<G7:=by rw [hG7];exact a7.lt
  have lt7_m7:w.heap.size+1<G7:=by rw [hG7];exact m7.lt
  have lt7_k7:w.heap.size+1+1<G7:=by rw [hG7];exact k7.lt
  have lt7_r7:w.heap.size+1+1+1<G7:=by rw [hG7];exact r7.lt
  have lt7_t97:j6_9<G7:=by rw [hG7];exact t97.lt
  have lt7_t107:j6_10<G7:=by rw [hG7];exact t107.lt
  obtain ⟨Inv7,hInv7⟩:∃ I:Array Bool→Act→World→Prop,I=(fun listed ac W=>∃ (b0 b1 b2 b3 b4 b5 b6 b7 b8 b9:Bool) (u53 u54 u55 u56 u57 u58 u59 u60 u11:Value) (A7_5:Option Addr) (n7_5 c7_5:Nat) (A7_5':Option Addr) (n7_5' c7_5':Nat) (A7_7:Option Addr) (n7_7 c7_7:Nat) (A7_7':Option Addr) (n7_7' c7_7':Nat) (j7_8:Nat),listed=#[b0,b1,b2,b3,b4,b5,b6,b7,b8,b9]∧ac={ tmps:=#[.agg #[.int .i64 a,.int .i64 st,.int .i64 z,.string g,.string o],.agg #[.int .i64 c1,.string v1],.agg #[.int .i64 c2,.string v2],.pointer (some ⟨w.heap.size,0,none⟩),.pointer (some ⟨w.heap.size+1,0,none⟩),.pointer (some ⟨w.heap.size+1+1,0,none⟩),.pointer (some ⟨w.heap.size+1+1+1,0,none⟩),.int .i64 0,.int .i64 0,.pointer (some ⟨j6_9,0,none⟩),.pointer (some ⟨j6_10,0,none⟩),u11,undef,undef,undef,undef,undef,undef,.agg #[.int .i64 a,.int .i64 st,.int .i64 z,.string g,.string o],.pointer (some ⟨w.heap.size+1,0,none⟩),.int .i64 c1,.int .i64 0,.pointer (some ⟨w.heap.size+1,1,none⟩),.string v1,.int .i64 0,.agg #[.int .i64 a,.int .i64 st,.int .i64 z,.string g,.string o],.pointer (some ⟨w.heap.size+1+1,0,none⟩),.int .i64 c2,.int .i64 0,.pointer (some ⟨w.heap.size+1+1,1,none⟩),.string v2,.int .i64 0,.slice (some ⟨w5.heap.size,0,none⟩) 4 4,.int .i64 0,.int .i64 0,.bool false,undef,undef,.pointer (some ⟨w.heap.size+1,0,none⟩),.int .i64 c1,.pointer (some ⟨w.heap.size+1+1,0,none⟩),.int .i64 c2,.bool false,undef,.agg #[.int .i64 a,.int .i64 st,.int .i64 z,.string g,.string o],.pointer (some ⟨w.heap.size+1,0,none⟩),.int .i64 c1,.float .f32 y1,.string s1,.agg #[.bool n1.neg,.slice A6_5 n6_5 c6_5,.slice A6_5' n6_5' c6_5'],.pointer (some ⟨w.heap.size+1,1,none⟩),.string v1,.agg #[.bool p1.neg,.slice A6_8 n6_8 c6_8,.slice A6_8' n6_8' c6_8'],u53,u54,u55,u56,u57,u58,u59,u60,undef,undef,undef,undef,undef,undef,undef,undef,undef,undef,undef,undef,undef,undef,undef,undef,undef,undef,undef,undef,undef,undef,undef,undef,undef,undef,undef,undef,undef,undef,undef,undef,undef,undef,undef,undef,undef],defers:=[] }∧G7≤W.heap.size∧Below w.heap.size w W∧CBlk W (w.heap.size) #[.int .i64 a,.int .i64 st,.int .i64 z,.string g,.string o] 33∧CBlk W (w.heap.size+1) #[.int .i64 c1,.string v1] 76∧CBlk W (w.heap.size+1+1) #[.int .i64 c2,.string v2] 76∧CBlk W (w.heap.size+1+1+1) #[.int .i64 0,.int .i64 0,.int .i64 0,.string { data:=#[] },.string { data:=#[] }] 33∧CBlk W (j6_9) #[.bool n1.neg,.slice A6_5 n6_5 c6_5,.slice A6_5' n6_5' c6_5'] 142∧CBlk W (j6_10) #[.bool p1.neg,.slice A6_8 n6_8 c6_8,.slice A6_8' n6_8' c6_8'] 142∧RatD W W.heap.size (.agg #[.bool n1.neg,.slice A6_5 n6_5 c6_5,.slice A6_5' n6_5' c6_5']) ⟨n1.neg,n1.top,n1.bot⟩∧RatD W W.heap.size (.agg #[.bool p1.neg,.slice A6_8 n6_8 c6_8,.slice A6_8' n6_8' c6_8']) ⟨p1.neg,p1.top,p1.bot⟩∧(b0=true→u53 = .agg #[.int .i64 a,.int .i64 st,.int .i64 z,.string g,.string o])∧(b1=true→u54 = .pointer (some ⟨w.heap.size+1+1,0,none⟩))∧(b2=true→u55 = .int .i64 c2)∧(b3=true→u56 = .float .f32 y2)∧(b4=true→u57 = .string s2)∧(b5=true→u58 = .agg #[.bool n2.neg,.slice A7_5 n7_5 c7_5,.slice A7_5' n7_5' c7_5']∧RatD W W.heap.size (.agg #[.bool n2.neg,.slice A7_5 n7_5 c7_5,.slice A7_5' n7_5' c7_5']) ⟨n2.neg,n2.top,n2.bot⟩)∧(b6=true→u59 = .agg #[.bool n1.neg,.slice A6_5 n6_5 c6_5,.slice A6_5' n6_5' c6_5'])∧(b7=true→u60 = .agg #[.bool ru.neg,.slice A7_7 n7_7 c7_7,.slice A7_7' n7_7' c7_7']∧RatD W W.heap.size (.agg #[.bool ru.neg,.slice A7_7 n7_7 c7_7,.slice A7_7' n7_7' c7_7']) ⟨ru.neg,ru.top,ru.bot⟩)∧(b8=true→u11 = .pointer (some ⟨j7_8,0,none⟩)∧G7≤j7_8∧j7_8<W.heap.size∧(b9=false→CBlk W j7_8 #[.bool false,.slice none 0 0,.slice none 0 0] 142))∧(b9=true→b8=true∧b7=true∧CBlk W j7_8 #[.bool ru.neg,.slice A7_7 n7_7 c7_7,.slice A7_7' n7_7' c7_7'] 142)):=⟨_,rfl⟩
  have HInv7:=Lib.hid hInv7
  clear hInv7
  refine zc4 (by kernel_rfl) Inv7 (by kernel_rfl) ?_ ?_ ?_
  ·rw [HInv7.out]
   exact ⟨false,false,false,false,false,false,false,false,false,false,undef,undef,undef,undef,undef,undef,undef,undef,undef,none,0,0,none,0,0,none,0,0,none,0,0,0,rfl,rfl,(by rw [hG7];exact Nat.le_refl _),hB7.drew,a7.drew,m7.drew,k7.drew,r7.drew,t97.drew,t107.drew,(qn7.later (Below.drew (Below.refl _ _))),(qv7.later (Below.drew (Below.refl _ _))),(fun h=>by cases h),(fun h=>by cases h),(fun h=>by cases h),(fun h=>by cases h),(fun h=>by cases h),(fun h=>by cases h),(fun h=>by cases h),(fun h=>by cases h),(fun h=>by cases h),(fun h=>by cases h)⟩
  ·intro i op listed ac W ho hI hl hdep
   rw [HInv7.out] at hI
   obtain ⟨b0,b1,b2,b3,b4,b5,b6,b7,b8,b9,u53,u54,u55,u56,u57,u58,u59,u60,u11,A7_5,n7_5,c7_5,A7_5',n7_5',c7_5',A7_7,n7_7,c7_7,A7_7',n7_7',c7_7',j7_8,rfl,rfl,hGW,hB7,a7,m7,k7,r7,t97,t107,qn7,qv7,f0,f1,f2,f3,f4,f5,f6,f7,f8,f9⟩:=hI
   clear hG7
   match i,ho,hl,hdep with
   | 0,ho,hl,hdep=>
    have hun:b0=false:=Option.some.inj hl
    obtain rfl:=Option.some.inj ho
    refine zaF ho fun K' hK => ?_
    have x0:=a7.cell 0
    have x1:=a7.cell 1
    have x2:=a7.cell 2
    have x3:=a7.cell 3
    have x4:=a7.cell 4
    go_simp
    refine hK.out _ _ ?_
    rw [HInv7.out]
    exact ⟨true,b1,b2,b3,b4,b5,b6,b7,b8,b9,(.agg #[.int .i64 a,.int .i64 st,.int .i64 z,.string g,.string o]),u54,u55,u56,u57,u58,u59,u60,u11,A7_5,n7_5,c7_5,A7_5',n7_5',c7_5',A7_7,n7_7,c7_7,A7_7',n7_7',c7_7',j7_8,rfl,rfl,hGW,hB7,a7,m7,k7,r7,t97,t107,qn7,qv7,(fun _=>rfl),f1,f2,f3,f4,f5,f6,f7,f8,f9⟩
   | 1,ho,hl,hdep=>
    have hun:b1=false:=Option.some.inj hl
    obtain rfl:=Option.some.inj ho
    refine zaF ho fun K' hK => ?_
    go_simp
    refine hK.out _ _ ?_
    rw [HInv7.out]
    exact ⟨b0,true,b2,b3,b4,b5,b6,b7,b8,b9,u53,(.pointer (some ⟨w.heap.size+1+1,0,none⟩)),u55,u56,u57,u58,u59,u60,u11,A7_5,n7_5,c7_5,A7_5',n7_5',c7_5',A7_7,n7_7,c7_7,A7_7',n7_7',c7_7',j7_8,rfl,rfl,hGW,hB7,a7,m7,k7,r7,t97,t107,qn7,qv7,f0,(fun _=>rfl),f2,f3,f4,f5,f6,f7,f8,f9⟩
   | 2,ho,hl,hdep=>
    have hun:b2=false:=Option.some.inj hl
    obtain rfl:=Option.some.inj ho
    have e1:b1=true:=hdep ⟨1,.data⟩ (by simp) rfl
    obtain rfl:=f1 e1
    refine zaF ho fun K' hK => ?_
    have x0:=k7.cell 0
    have x1:=k7.cell 1
    go_simp
    refine hK.out _ _ ?_
    rw [HInv7.out]
    exact ⟨b0,b1,true,b3,b4,b5,b6,b7,b8,b9,u53,(.pointer (some ⟨w.heap.size+1+1,0,none⟩)),(.int .i64 c2),u56,u57,u58,u59,u60,u11,A7_5,n7_5,c7_5,A7_5',n7_5',c7_5',A7_7,n7_7,c7_7,A7_7',n7_7',c7_7',j7_8,rfl,rfl,hGW,hB7,a7,m7,k7,r7,t97,t107,qn7,qv7,f0,f1,(fun _=>rfl),f3,f4,f5,f6,f7,f8,f9⟩
   | 3,ho,hl,hdep=>
    have hun:b3=false:=Option.some.inj hl
    obtain rfl:=Option.some.inj ho
    have e0:b0=true:=hdep ⟨0,.data⟩ (by simp) rfl
    obtain rfl:=f0 e0
    have e2:b2=true:=hdep ⟨2,.data⟩ (by simp) rfl
    obtain rfl:=f2 e2
    refine zaF ho fun K' hK => ?_
    go_simp
    go_at_call 80
    refine (U2.out W).mono ?_
    rintro e W1 ⟨rfl,hb⟩
    refine hK.out _ _ ?_
    rw [HInv7.out]
    exact ⟨b0,b1,b2,true,b4,b5,b6,b7,b8,b9,(.agg #[.int .i64 a,.int .i64 st,.int .i64 z,.string g,.string o]),u54,(.int .i64 c2),(.float .f32 y2),u57,u58,u59,u60,u11,A7_5,n7_5,c7_5,A7_5',n7_5',c7_5',A7_7,n7_7,c7_7,A7_7',n7_7',c7_7',j7_8,rfl,rfl,(Nat.le_trans hGW hb.size),(hB7.trans (hb.mono hB7.size)),(a7.below hb a7.lt),(m7.below hb m7.lt),(k7.below hb k7.lt),(r7.below hb r7.lt),(t97.below hb t97.lt),(t107.below hb t107.lt),(qn7.later hb),(qv7.later hb),f0,f1,f2,(fun _=>rfl),f4,(fun h=>⟨(f5 h).1,(f5 h).2.later hb⟩),f6,(fun h=>⟨(f7 h).1,(f7 h).2.later hb⟩),(fun h=>⟨(f8 h).1,(f8 h).2.1,Nat.lt_of_lt_of_le (f8 h).2.2.1 hb.size,fun h2=>((f8 h).2.2.2 h2).below hb (f8 h).2.2.1⟩),(fun h=>⟨(f9 h).1,(f9 h).2.1,(f9 h).2.2.below hb (f9 h).2.2.lt⟩)⟩
   | 4,ho,hl,hdep=>
    have hun:b4=false:=Option.some.inj hl
    obtain rfl:=Option.some.inj ho
    have e3:b3=true:=hdep ⟨3,.data⟩ (by simp) rfl
    obtain rfl:=f3 e3
    refine zaF ho fun K' hK => ?_
    go_simp
    go_at_call 92
    refine (X2.out W (hT.later hB7)).mono ?_
    rintro e W1 ⟨rfl,hb⟩
    refine hK.out _ _ ?_
    rw [HInv7.out]
    exact ⟨b0,b1,b2,b3,true,b5,b6,b7,b8,b9,u53,u54,u55,(.float .f32 y2),(.string s2),u58,u59,u60,u11,A7_5,n7_5,c7_5,A7_5',n7_5',c7_5',A7_7,n7_7,c7_7,A7_7',n7_7',c7_7',j7_8,rfl,rfl,(Nat.le_trans hGW hb.size),(hB7.trans (hb.mono hB7.size)),(a7.below hb a7.lt),(m7.below hb m7.lt),(k7.below hb k7.lt),(r7.below hb r7.lt),(t97.below hb t97.lt),(t107.below hb t107.lt),(qn7.later hb),(qv7.later hb),f0,f1,f2,f3,(fun _=>rfl),(fun h=>⟨(f5 h).1,(f5 h).2.later hb⟩),f6,(fun h=>⟨(f7 h).1,(f7 h).2.later hb⟩),(fun h=>⟨(f8 h).1,(f8 h).2.1,Nat.lt_of_lt_of_le (f8 h).2.2.1 hb.size,fun h2=>((f8 h).2.2.2 h2).below hb (f8 h).2.2.1⟩),(fun h=>⟨(f9 h).1,(f9 h).2.1,(f9 h).2.2.below hb (f9 h).2.2.lt⟩)⟩
   | 5,ho,hl,hdep=>
    have hun:b5=false:=Option.some.inj hl
    obtain rfl:=Option.some.inj ho
    have e4:b4=true:=hdep ⟨4,.data⟩ (by simp) rfl
    obtain rfl:=f4 e4
    refine zaF ho fun K' hK => ?_
    go_simp
    go_at_call 91
    refine (I3.out W (hT.later hB7)).mono ?_
    rintro e W1 ⟨A,n,c,A',n',c',rfl,hr,hb⟩
    refine hK.out _ _ ?_
    rw [HInv7.out]
    exact ⟨b0,b1,b2,b3,b4,true,b6,b7,b8,b9,u53,u54,u55,u56,(.string s2),(.agg #[.bool n2.neg,.slice A n c,.slice A' n' c']),u59,u60,u11,A,n,c,A',n',c',A7_7,n7_7,c7_7,A7_7',n7_7',c7_7',j7_8,rfl,rfl,(Nat.le_trans hGW hb.size),(hB7.trans (hb.mono hB7.size)),(a7.below hb a7.lt),(m7.below hb m7.lt),(k7.below hb k7.lt),(r7.below hb r7.lt),(t97.below hb t97.lt),(t107.below hb t107.lt),(qn7.later hb),(qv7.later hb),f0,f1,f2,f3,f4,(fun _=>⟨rfl,hr⟩),f6,(fun h=>⟨(f7 h).1,(f7 h).2.later hb⟩),(fun h=>⟨(f8 h).1,(f8 h).2.1,Nat.lt_of_lt_of_le (f8 h).2.2.1 hb.size,fun h2=>((f8 h).2.2.2 h2).below hb (f8 h).2.2.1⟩),(fun h=>⟨(f9 h).1,(f9 h).2.1,(f9 h).2.2.below hb (f9 h).2.2.lt⟩)⟩
   | 6,ho,hl,hdep=>
    have hun:b6=false:=Option.some.inj hl
    obtain rfl:=Option.some.inj ho
    refine zaF ho fun K' hK => ?_
    have x0:=t97.cell 0
    have x1:=t97.cell 1
    have x2:=t97.cell 2
    go_simp
    refine hK.out _ _ ?_
    rw [HInv7.out]
    exact ⟨b0,b1,b2,b3,b4,b5,true,b7,b8,b9,u53,u54,u55,u56,u57,u58,(.agg #[.bool n1.neg,.slice A6_5 n6_5 c6_5,.slice A6_5' n6_5' c6_5']),u60,u11,A7_5,n7_5,c7_5,A7_5',n7_5',c7_5',A7_7,n7_7,c7_7,A7_7',n7_7',c7_7',j7_8,rfl,rfl,hGW,hB7,a7,m7,k7,r7,t97,t107,qn7,qv7,f0,f1,f2,f3,f4,f5,(fun _=>rfl),f7,f8,f9⟩
   | 7,ho,hl,hdep=>
    have hun:b7=false:=Option.some.inj hl
    obtain rfl:=Option.some.inj ho
    have e5:b5=true:=hdep ⟨5,.data⟩ (by simp) rfl
    obtain ⟨rfl,rr5⟩:=f5 e5
    have e6:b6=true:=hdep ⟨6,.data⟩ (by simp) rfl
    obtain rfl:=f6 e6
    refine zaF ho fun K' hK => ?_
    go_simp
    go_at_call 93
    refine (H1.out _ _ W (hT.later hB7) rr5 qn7).mono ?_
    rintro e W1 ⟨A,n,c,A',n',c',rfl,hr,hb⟩
    refine hK.out _ _ ?_
    rw [HInv7.out]
    exact ⟨b0,b1,b2,b3,b4,b5,b6,true,b8,b9,u53,u54,u55,u56,u57,(.agg #[.bool n2.neg,.slice A7_5 n7_5 c7_5,.slice A7_5' n7_5' c7_5']),(.agg #[.bool n1.neg,.slice A6_5 n6_5 c6_5,.slice A6_5' n6_5' c6_5']),(.agg #[.bool ru.neg,.slice A n c,.slice A' n' c']),u11,A7_5,n7_5,c7_5,A7_5',n7_5',c7_5',A,n,c,A',n',c',j7_8,rfl,rfl,(Nat.le_trans hGW hb.size),(hB7.trans (hb.mono hB7.size)),(a7.below hb a7.lt),(m7.below hb m7.lt),(k7.below hb k7.lt),(r7.below hb r7.lt),(t97.below hb t97.lt),(t107.below hb t107.lt),(qn7.later hb),(qv7.later hb),f0,f1,f2,f3,f4,(fun h=>⟨(f5 h).1,(f5 h).2.later hb⟩),f6,(fun _=>⟨rfl,hr⟩),(fun h=>⟨(f8 h).1,(f8 h).2.1,Nat.lt_of_lt_of_le (f8 h).2.2.1 hb.size,fun h2=>((f8 h).2.2.2 h2).below hb (f8 h).2.2.1⟩),(fun h=>by rw [(f9 h).2.1] at hun;cases hun)⟩
   | 8,ho,hl,hdep=>
    have hun:b8=false:=Option.some.inj hl
    obtain rfl:=Option.some.inj ho
    refine zaF ho fun K' hK => ?_
    have hb:Below W.heap.size W (W.alloc (.cells #[.bool false,.slice none 0 0,.slice none 0 0] 142)):=(Below.refl _ _).alloc (Nat.le_refl _) _
    go_simp
    refine hK.out _ _ ?_
    rw [HInv7.out]
    exact ⟨b0,b1,b2,b3,b4,b5,b6,b7,true,b9,u53,u54,u55,u56,u57,u58,u59,u60,(.pointer (some ⟨W.heap.size,0,none⟩)),A7_5,n7_5,c7_5,A7_5',n7_5',c7_5',A7_7,n7_7,c7_7,A7_7',n7_7',c7_7',W.heap.size,rfl,rfl,(Nat.le_trans hGW hb.size),(hB7.trans (hb.mono hB7.size)),(a7.below hb a7.lt),(m7.below hb m7.lt),(k7.below hb k7.lt),(r7.below hb r7.lt),(t97.below hb t97.lt),(t107.below hb t107.lt),(qn7.later hb),(qv7.later hb),f0,f1,f2,f3,f4,(fun h=>⟨(f5 h).1,(f5 h).2.later hb⟩),f6,(fun h=>⟨(f7 h).1,(f7 h).2.later hb⟩),(fun _=>⟨rfl,hGW,by simp,fun _=>CBlk.new W _ _ _ rfl⟩),(fun h=>by rw [(f9 h).1] at hun;cases hun)⟩
   | 9,ho,hl,hdep=>
    have hun:b9=false:=Option.some.inj hl
    obtain rfl:=Option.some.inj ho
    have e8:b8=true:=hdep ⟨8,.data⟩ (by simp) rfl
    obtain ⟨rfl,hGj,hjW,hzz⟩:=f8 e8
    have e7:b7=true:=hdep ⟨7,.data⟩ (by simp) rfl
    obtain ⟨rfl,rr7⟩:=f7 e7
    refine zaF ho fun K' hK => ?_
    have hz:=hzz hun
    have z0:=hz.cell 0
    have z1:=hz.cell 1
    have z2:=hz.cell 2
    have zf0:=hz.frozen 0
    have zf1:=hz.frozen 1
    have zf2:=hz.frozen 2
    go_simp
    refine hK.out _ _ ?_
    rw [HInv7.out]
    exact ⟨b0,b1,b2,b3,b4,b5,b6,b7,b8,true,u53,u54,u55,u56,u57,u58,u59,(.agg #[.bool ru.neg,.slice A7_7 n7_7 c7_7,.slice A7_7' n7_7' c7_7']),(.pointer (some ⟨j7_8,0,none⟩)),A7_5,n7_5,c7_5,A7_5',n7_5',c7_5',A7_7,n7_7,c7_7,A7_7',n7_7',c7_7',j7_8,rfl,rfl,(by rw [zah];exact hGW),(zao hB7 (Nat.le_trans le7 hGj) _ _ _),(a7.far3 (Nat.ne_of_gt (Nat.lt_of_lt_of_le lt7_a7 hGj)) _ _ _),(m7.far3 (Nat.ne_of_gt (Nat.lt_of_lt_of_le lt7_m7 hGj)) _ _ _),(k7.far3 (Nat.ne_of_gt (Nat.lt_of_lt_of_le lt7_k7 hGj)) _ _ _),(r7.far3 (Nat.ne_of_gt (Nat.lt_of_lt_of_le lt7_r7 hGj)) _ _ _),(t97.far3 (Nat.ne_of_gt (Nat.lt_of_lt_of_le lt7_t97 hGj)) _ _ _),(t107.far3 (Nat.ne_of_gt (Nat.lt_of_lt_of_le lt7_t107 hGj)) _ _ _),(qn7.res3 hz _ _ _),(qv7.res3 hz _ _ _),f0,f1,f2,f3,f4,(fun h=>⟨(f5 h).1,(f5 h).2.res3 hz _ _ _⟩),f6,(fun h=>⟨(f7 h).1,(f7 h).2.res3 hz _ _ _⟩),(fun h=>⟨(f8 h).1,(f8 h).2.1,by rw [zah];exact (f8 h).2.2.1,fun h2=>by cases h2⟩),(fun _=>⟨e8,e7,hz.set3 _ _ _⟩)⟩
   | n+10,ho,hl,hdep=>exact absurd ho (by simp)
  ·intro listed ac w8 hI hall
   rw [HInv7.out] at hI
   clear hB7 a7 m7 k7 r7 t97 t107 qn7 qv7
   obtain ⟨b0,b1,b2,b3,b4,b5,b6,b7,b8,b9,u53,u54,u55,u56,u57,u58,u59,u60,u11,A7_5,n7_5,c7_5,A7_5',n7_5',c7_5',A7_7,n7_7,c7_7,A7_7',n7_7',c7_7',j7_8,rfl,rfl,hGW,hB8,a8,m8,k8,r8,t98,t108,qn8,qv8,f0,f1,f2,f3,f4,f5,f6,f7,f8,f9⟩:=hI
   have e0:b0=true:=hall 0 b0 (by decide) rfl
   have e1:b1=true:=hall 1 b1 (by decide) rfl
   have e2:b2=true:=hall 2 b2 (by decide) rfl
   have e3:b3=true:=hall 3 b3 (by decide) rfl
   have e4:b4=true:=hall 4 b4 (by decide) rfl
   have e5:b5=true:=hall 5 b5 (by decide) rfl
   have e6:b6=true:=hall 6 b6 (by decide) rfl
   have e7:b7=true:=hall 7 b7 (by decide) rfl
   have e8:b8=true:=hall 8 b8 (by decide) rfl
   have e9:b9=true:=hall 9 b9 (by decide) rfl
   subst e0
   subst e1
   subst e2
   subst e3
   subst e4
   subst e5
   subst e6
   subst e7
   subst e8
   subst e9
   obtain rfl:=f0 rfl
   obtain rfl:=f1 rfl
   obtain rfl:=f2 rfl
   obtain rfl:=f3 rfl
   obtain rfl:=f4 rfl
   obtain ⟨rfl,q58⟩:=f5 rfl
   obtain rfl:=f6 rfl
   obtain ⟨rfl,qr⟩:=f7 rfl
   obtain ⟨rfl,hGj7_8,_,_⟩:=f8 rfl
   have t11:=(f9 rfl).2.2
   clear f0 f1 f2 f3 f4 f5 f6 f7 f8 f9 hall HInv7 lt7_a7 lt7_m7 lt7_k7 lt7_r7 lt7_t97 lt7_t107
   clear U2 X2 I3 H1 q58
   have qr8:=qr
   have t118:=t11
   clear qr t11
   go_wp2_with fail
   obtain ⟨G8,hG8⟩:∃ g,g=w8.heap.size:=⟨_,rfl⟩
   have le8:w.heap.size≤G8:=by rw [hG8];exact hB8.size
   have lt8_a8:w.heap.size<G8:=by rw [hG8];exact a8.lt
   have lt8_m8:w.heap.size+1<G8:=by rw [hG8];exact m8.lt
   have lt8_k8:w.heap.size+1+1<G8:=by rw [hG8];exact k8.lt
   have lt8_r8:w.heap.size+1+1+1<G8:=by rw [hG8];exact r8.lt
   have lt8_t98:j6_9<G8:=by rw [hG8];exact t98.lt
   have lt8_t108:j6_10<G8:=by rw [hG8];exact t108.lt
   have lt8_t118:j7_8<G8:=by rw [hG8];exact t118.lt
   obtain ⟨Inv8,hInv8⟩:∃ I:Array Bool→Act→World→Prop,I=(fun listed ac W=>∃ (b0 b1 b2 b3 b4 b5 b6 b7 b8:Bool) (u61 u62 u63 u64 u65 u66 u67 u12:Value) (A8_2:Option Addr) (n8_2 c8_2:Nat) (A8_2':Option Addr) (n8_2' c8_2':Nat) (A8_4:Option Addr) (n8_4 c8_4:Nat) (A8_4':Option Addr) (n8_4' c8_4':Nat) (A8_6:Option Addr) (n8_6 c8_6:Nat) (A8_6':Option Addr) (n8_6' c8_6':Nat) (j8_7:Nat),listed=#[b0,b1,b2,b3,b4,b5,b6,b7,b8]∧ac={ tmps:=#[.agg #[.int .i64 a,.int .i64 st,.int .i64 z,.string g,.string o],.agg #[.int .i64 c1,.string v1],.agg #[.int .i64 c2,.string v2],.pointer (some ⟨w.heap.size,0,none⟩),.pointer (some ⟨w.heap.size+1,0,none⟩),.pointer (some ⟨w.heap.size+1+1,0,none⟩),.pointer (some ⟨w.heap.size+1+1+1,0,none⟩),.int .i64 0,.int .i64 0,.pointer (some ⟨j6_9,0,none⟩),.pointer (some ⟨j6_10,0,none⟩),.pointer (some ⟨j7_8,0,none⟩),u12,undef,undef,undef,undef,undef,.agg #[.int .i64 a,.int .i64 st,.int .i64 z,.string g,.string o],.pointer (some ⟨w.heap.size+1,0,none⟩),.int .i64 c1,.int .i64 0,.pointer (some ⟨w.heap.size+1,1,none⟩),.string v1,.int .i64 0,.agg #[.int .i64 a,.int .i64 st,.int .i64 z,.string g,.string o],.pointer (some ⟨w.heap.size+1+1,0,none⟩),.int .i64 c2,.int .i64 0,.pointer (some ⟨w.heap.size+1+1,1,none⟩),.string v2,.int .i64 0,.slice (some ⟨w5.heap.size,0,none⟩) 4 4,.int .i64 0,.int .i64 0,.bool false,undef,undef,.pointer (some ⟨w.heap.size+1,0,none⟩),.int .i64 c1,.pointer (some ⟨w.heap.size+1+1,0,none⟩),.int .i64 c2,.bool false,undef,.agg #[.int .i64 a,.int .i64 st,.int .i64 z,.string g,.string o],.pointer (some ⟨w.heap.size+1,0,none⟩),.int .i64 c1,.float .f32 y1,.string s1,.agg #[.bool n1.neg,.slice A6_5 n6_5 c6_5,.slice A6_5' n6_5' c6_5'],.pointer (some ⟨w.heap.size+1,1,none⟩),.string v1,.agg #[.bool p1.neg,.slice A6_8 n6_8 c6_8,.slice A6_8' n6_8' c6_8'],.agg #[.int .i64 a,.int .i64 st,.int .i64 z,.string g,.string o],.pointer (some ⟨w.heap.size+1+1,0,none⟩),.int .i64 c2,.float .f32 y2,.string s2,.agg #[.bool n2.neg,.slice A7_5 n7_5 c7_5,.slice A7_5' n7_5' c7_5'],.agg #[.bool n1.neg,.slice A6_5 n6_5 c6_5,.slice A6_5' n6_5' c6_5'],.agg #[.bool ru.neg,.slice A7_7 n7_7 c7_7,.slice A7_7' n7_7' c7_7'],u61,u62,u63,u64,u65,u66,u67,undef,undef,undef,undef,undef,undef,undef,undef,undef,undef,undef,undef,undef,undef,undef,undef,undef,undef,undef,undef,undef,undef,undef,undef,undef,undef,undef,undef,undef,undef],defers:=[] }∧G8≤W.heap.size∧Below w.heap.size w W∧CBlk W (w.heap.size) #[.int .i64 a,.int .i64 st,.int .i64 z,.string g,.string o] 33∧CBlk W (w.heap.size+1) #[.int .i64 c1,.string v1] 76∧CBlk W (w.heap.size+1+1) #[.int .i64 c2,.string v2] 76∧CBlk W (w.heap.size+1+1+1) #[.int .i64 0,.int .i64 0,.int .i64 0,.string { data:=#[] },.string { data:=#[] }] 33∧CBlk W (j6_9) #[.bool n1.neg,.slice A6_5 n6_5 c6_5,.slice A6_5' n6_5' c6_5'] 142∧CBlk W (j6_10) #[.bool p1.neg,.slice A6_8 n6_8 c6_8,.slice A6_8' n6_8' c6_8'] 142∧RatD W W.heap.size (.agg #[.bool n1.neg,.slice A6_5 n6_5 c6_5,.slice A6_5' n6_5' c6_5']) ⟨n1.neg,n1.top,n1.bot⟩∧RatD W W.heap.size (.agg #[.bool p1.neg,.slice A6_8 n6_8 c6_8,.slice A6_8' n6_8' c6_8']) ⟨p1.neg,p1.top,p1.bot⟩∧RatD W W.heap.size (.agg #[.bool ru.neg,.slice A7_7 n7_7 c7_7,.slice A7_7' n7_7' c7_7']) ⟨ru.neg,ru.top,ru.bot⟩∧CBlk W (j7_8) #[.bool ru.neg,.slice A7_7 n7_7 c7_7,.slice A7_7' n7_7' c7_7'] 142∧(b0=true→u61 = .pointer (some ⟨w.heap.size+1+1,1,none⟩))∧(b1=true→u62 = .string v2)∧(b2=true→u63 = .agg #[.bool p2.neg,.slice A8_2 n8_2 c8_2,.slice A8_2' n8_2' c8_2']∧RatD W W.heap.size (.agg #[.bool p2.neg,.slice A8_2 n8_2 c8_2,.slice A8_2' n8_2' c8_2']) ⟨p2.neg,p2.top,p2.bot⟩)∧(b3=true→u64 = .agg #[.bool p1.neg,.slice A6_8 n6_8 c6_8,.slice A6_8' n6_8' c6_8'])∧(b4=true→u65 = .agg #[.bool df.neg,.slice A8_4 n8_4 c8_4,.slice A8_4' n8_4' c8_4']∧RatD W W.heap.size (.agg #[.bool df.neg,.slice A8_4 n8_4 c8_4,.slice A8_4' n8_4' c8_4']) ⟨df.neg,df.top,df.bot⟩)∧(b5=true→u66 = .agg #[.bool ru.neg,.slice A7_7 n7_7 c7_7,.slice A7_7' n7_7' c7_7'])∧(b6=true→u67 = .agg #[.bool sl.neg,.slice A8_6 n8_6 c8_6,.slice A8_6' n8_6' c8_6']∧RatD W W.heap.size (.agg #[.bool sl.neg,.slice A8_6 n8_6 c8_6,.slice A8_6' n8_6' c8_6']) ⟨sl.neg,sl.top,sl.bot⟩)∧(b7=true→u12 = .pointer (some ⟨j8_7,0,none⟩)∧G8≤j8_7∧j8_7<W.heap.size∧(b8=false→CBlk W j8_7 #[.bool false,.slice none 0 0,.slice none 0 0] 142))∧(b8=true→b7=true∧b6=true∧CBlk W j8_7 #[.bool sl.neg,.slice A8_6 n8_6 c8_6,.slice A8_6' n8_6' c8_6'] 142)):=⟨_,rfl⟩
   have HInv8:=Lib.hid hInv8
   clear hInv8
   refine zc4 (by kernel_rfl) Inv8 (by kernel_rfl) ?_ ?_ ?_
   ·rw [HInv8.out]
    exact ⟨false,false,false,false,false,false,false,false,false,undef,undef,undef,undef,undef,undef,undef,undef,none,0,0,none,0,0,none,0,0,none,0,0,none,0,0,none,0,0,0,rfl,rfl,(by rw [hG8];exact Nat.le_refl _),hB8.drew,a8.drew,m8.drew,k8.drew,r8.drew,t98.drew,t108.drew,(qn8.later (Below.drew (Below.refl _ _))),(qv8.later (Below.drew (Below.refl _ _))),(qr8.later (Below.drew (Below.refl _ _))),t118.drew,(fun h=>by cases h),(fun h=>by cases h),(fun h=>by cases h),(fun h=>by cases h),(fun h=>by cases h),(fun h=>by cases h),(fun h=>by cases h),(fun h=>by cases h),(fun h=>by cases h)⟩
   ·intro i op listed ac W ho hI hl hdep
    rw [HInv8.out] at hI
    obtain ⟨b0,b1,b2,b3,b4,b5,b6,b7,b8,u61,u62,u63,u64,u65,u66,u67,u12,A8_2,n8_2,c8_2,A8_2',n8_2',c8_2',A8_4,n8_4,c8_4,A8_4',n8_4',c8_4',A8_6,n8_6,c8_6,A8_6',n8_6',c8_6',j8_7,rfl,rfl,hGW,hB8,a8,m8,k8,r8,t98,t108,qn8,qv8,qr8,t118,f0,f1,f2,f3,f4,f5,f6,f7,f8⟩:=hI
    clear hG8
    match i,ho,hl,hdep with
    | 0,ho,hl,hdep=>
     have hun:b0=false:=Option.some.inj hl
     obtain rfl:=Option.some.inj ho
     refine zaF ho fun K' hK => ?_
     go_simp
     refine hK.out _ _ ?_
     rw [HInv8.out]
     exact ⟨true,b1,b2,b3,b4,b5,b6,b7,b8,(.pointer (some ⟨w.heap.size+1+1,1,none⟩)),u62,u63,u64,u65,u66,u67,u12,A8_2,n8_2,c8_2,A8_2',n8_2',c8_2',A8_4,n8_4,c8_4,A8_4',n8_4',c8_4',A8_6,n8_6,c8_6,A8_6',n8_6',c8_6',j8_7,rfl,rfl,hGW,hB8,a8,m8,k8,r8,t98,t108,qn8,qv8,qr8,t118,(fun _=>rfl),f1,f2,f3,f4,f5,f6,f7,f8⟩
    | 1,ho,hl,hdep=>
     have hun:b1=false:=Option.some.inj hl
     obtain rfl:=Option.some.inj ho
     have e0:b0=true:=hdep ⟨0,.data⟩ (by simp) rfl
     obtain rfl:=f0 e0
     refine zaF ho fun K' hK => ?_
     have x0:=k8.cell 0
     have x1:=k8.cell 1
     go_simp
     refine hK.out _ _ ?_
     rw [HInv8.out]
     exact ⟨b0,true,b2,b3,b4,b5,b6,b7,b8,(.pointer (some ⟨w.heap.size+1+1,1,none⟩)),(.string v2),u63,u64,u65,u66,u67,u12,A8_2,n8_2,c8_2,A8_2',n8_2',c8_2',A8_4,n8_4,c8_4,A8_4',n8_4',c8_4',A8_6,n8_6,c8_6,A8_6',n8_6',c8_6',j8_7,rfl,rfl,hGW,hB8,a8,m8,k8,r8,t98,t108,qn8,qv8,qr8,t118,f0,(fun _=>rfl),f2,f3,f4,f5,f6,f7,f8⟩
    | 2,ho,hl,hdep=>
     have hun:b2=false:=Option.some.inj hl
     obtain rfl:=Option.some.inj ho
     have e1:b1=true:=hdep ⟨1,.data⟩ (by simp) rfl
     obtain rfl:=f1 e1
     refine zaF ho fun K' hK => ?_
     go_simp
     go_at_call 91
     refine (I4.out W (hT.later hB8)).mono ?_
     rintro e W1 ⟨A,n,c,A',n',c',rfl,hr,hb⟩
     refine hK.out _ _ ?_
     rw [HInv8.out]
     exact ⟨b0,b1,true,b3,b4,b5,b6,b7,b8,u61,(.string v2),(.agg #[.bool p2.neg,.slice A n c,.slice A' n' c']),u64,u65,u66,u67,u12,A,n,c,A',n',c',A8_4,n8_4,c8_4,A8_4',n8_4',c8_4',A8_6,n8_6,c8_6,A8_6',n8_6',c8_6',j8_7,rfl,rfl,(Nat.le_trans hGW hb.size),(hB8.trans (hb.mono hB8.size)),(a8.below hb a8.lt),(m8.below hb m8.lt),(k8.below hb k8.lt),(r8.below hb r8.lt),(t98.below hb t98.lt),(t108.below hb t108.lt),(qn8.later hb),(qv8.later hb),(qr8.later hb),(t118.below hb t118.lt),f0,f1,(fun _=>⟨rfl,hr⟩),f3,(fun h=>⟨(f4 h).1,(f4 h).2.later hb⟩),f5,(fun h=>⟨(f6 h).1,(f6 h).2.later hb⟩),(fun h=>⟨(f7 h).1,(f7 h).2.1,Nat.lt_of_lt_of_le (f7 h).2.2.1 hb.size,fun h2=>((f7 h).2.2.2 h2).below hb (f7 h).2.2.1⟩),(fun h=>⟨(f8 h).1,(f8 h).2.1,(f8 h).2.2.below hb (f8 h).2.2.lt⟩)⟩
    | 3,ho,hl,hdep=>
     have hun:b3=false:=Option.some.inj hl
     obtain rfl:=Option.some.inj ho
     refine zaF ho fun K' hK => ?_
     have x0:=t108.cell 0
     have x1:=t108.cell 1
     have x2:=t108.cell 2
     go_simp
     refine hK.out _ _ ?_
     rw [HInv8.out]
     exact ⟨b0,b1,b2,true,b4,b5,b6,b7,b8,u61,u62,u63,(.agg #[.bool p1.neg,.slice A6_8 n6_8 c6_8,.slice A6_8' n6_8' c6_8']),u65,u66,u67,u12,A8_2,n8_2,c8_2,A8_2',n8_2',c8_2',A8_4,n8_4,c8_4,A8_4',n8_4',c8_4',A8_6,n8_6,c8_6,A8_6',n8_6',c8_6',j8_7,rfl,rfl,hGW,hB8,a8,m8,k8,r8,t98,t108,qn8,qv8,qr8,t118,f0,f1,f2,(fun _=>rfl),f4,f5,f6,f7,f8⟩
    | 4,ho,hl,hdep=>
     have hun:b4=false:=Option.some.inj hl
     obtain rfl:=Option.some.inj ho
     have e2:b2=true:=hdep ⟨2,.data⟩ (by simp) rfl
     obtain ⟨rfl,rr2⟩:=f2 e2
     have e3:b3=true:=hdep ⟨3,.data⟩ (by simp) rfl
     obtain rfl:=f3 e3
     refine zaF ho fun K' hK => ?_
     go_simp
     go_at_call 93
     refine (H2.out _ _ W (hT.later hB8) rr2 qv8).mono ?_
     rintro e W1 ⟨A,n,c,A',n',c',rfl,hr,hb⟩
     refine hK.out _ _ ?_
     rw [HInv8.out]
     exact ⟨b0,b1,b2,b3,true,b5,b6,b7,b8,u61,u62,(.agg #[.bool p2.neg,.slice A8_2 n8_2 c8_2,.slice A8_2' n8_2' c8_2']),(.agg #[.bool p1.neg,.slice A6_8 n6_8 c6_8,.slice A6_8' n6_8' c6_8']),(.agg #[.bool df.neg,.slice A n c,.slice A' n' c']),u66,u67,u12,A8_2,n8_2,c8_2,A8_2',n8_2',c8_2',A,n,c,A',n',c',A8_6,n8_6,c8_6,A8_6',n8_6',c8_6',j8_7,rfl,rfl,(Nat.le_trans hGW hb.size),(hB8.trans (hb.mono hB8.size)),(a8.below hb a8.lt),(m8.below hb m8.lt),(k8.below hb k8.lt),(r8.below hb r8.lt),(t98.below hb t98.lt),(t108.below hb t108.lt),(qn8.later hb),(qv8.later hb),(qr8.later hb),(t118.below hb t118.lt),f0,f1,(fun h=>⟨(f2 h).1,(f2 h).2.later hb⟩),f3,(fun _=>⟨rfl,hr⟩),f5,(fun h=>⟨(f6 h).1,(f6 h).2.later hb⟩),(fun h=>⟨(f7 h).1,(f7 h).2.1,Nat.lt_of_lt_of_le (f7 h).2.2.1 hb.size,fun h2=>((f7 h).2.2.2 h2).below hb (f7 h).2.2.1⟩),(fun h=>⟨(f8 h).1,(f8 h).2.1,(f8 h).2.2.below hb (f8 h).2.2.lt⟩)⟩
    | 5,ho,hl,hdep=>
     have hun:b5=false:=Option.some.inj hl
     obtain rfl:=Option.some.inj ho
     refine zaF ho fun K' hK => ?_
     have x0:=t118.cell 0
     have x1:=t118.cell 1
     have x2:=t118.cell 2
     go_simp
     refine hK.out _ _ ?_
     rw [HInv8.out]
     exact ⟨b0,b1,b2,b3,b4,true,b6,b7,b8,u61,u62,u63,u64,u65,(.agg #[.bool ru.neg,.slice A7_7 n7_7 c7_7,.slice A7_7' n7_7' c7_7']),u67,u12,A8_2,n8_2,c8_2,A8_2',n8_2',c8_2',A8_4,n8_4,c8_4,A8_4',n8_4',c8_4',A8_6,n8_6,c8_6,A8_6',n8_6',c8_6',j8_7,rfl,rfl,hGW,hB8,a8,m8,k8,r8,t98,t108,qn8,qv8,qr8,t118,f0,f1,f2,f3,f4,(fun _=>rfl),f6,f7,f8⟩
    | 6,ho,hl,hdep=>
     have hun:b6=false:=Option.some.inj hl
     obtain rfl:=Option.some.inj ho
     have e4:b4=true:=hdep ⟨4,.data⟩ (by simp) rfl
     obtain ⟨rfl,rr4⟩:=f4 e4
     have e5:b5=true:=hdep ⟨5,.data⟩ (by simp) rfl
     obtain rfl:=f5 e5
     refine zaF ho fun K' hK => ?_
     go_simp
     go_at_call 94
     refine (H3.out _ _ W (hT.later hB8) rr4 qr8).mono ?_
     rintro e W1 ⟨A,n,c,A',n',c',rfl,hr,hb⟩
     refine hK.out _ _ ?_
     rw [HInv8.out]
     exact ⟨b0,b1,b2,b3,b4,b5,true,b7,b8,u61,u62,u63,u64,(.agg #[.bool df.neg,.slice A8_4 n8_4 c8_4,.slice A8_4' n8_4' c8_4']),(.agg #[.bool ru.neg,.slice A7_7 n7_7 c7_7,.slice A7_7' n7_7' c7_7']),(.agg #[.bool sl.neg,.slice A n c,.slice A' n' c']),u12,A8_2,n8_2,c8_2,A8_2',n8_2',c8_2',A8_4,n8_4,c8_4,A8_4',n8_4',c8_4',A,n,c,A',n',c',j8_7,rfl,rfl,(Nat.le_trans hGW hb.size),(hB8.trans (hb.mono hB8.size)),(a8.below hb a8.lt),(m8.below hb m8.lt),(k8.below hb k8.lt),(r8.below hb r8.lt),(t98.below hb t98.lt),(t108.below hb t108.lt),(qn8.later hb),(qv8.later hb),(qr8.later hb),(t118.below hb t118.lt),f0,f1,(fun h=>⟨(f2 h).1,(f2 h).2.later hb⟩),f3,(fun h=>⟨(f4 h).1,(f4 h).2.later hb⟩),f5,(fun _=>⟨rfl,hr⟩),(fun h=>⟨(f7 h).1,(f7 h).2.1,Nat.lt_of_lt_of_le (f7 h).2.2.1 hb.size,fun h2=>((f7 h).2.2.2 h2).below hb (f7 h).2.2.1⟩),(fun h=>by rw [(f8 h).2.1] at hun;cases hun)⟩
    | 7,ho,hl,hdep=>
     have hun:b7=false:=Option.some.inj hl
     obtain rfl:=Option.some.inj ho
     refine zaF ho fun K' hK => ?_
     have hb:Below W.heap.size W (W.alloc (.cells #[.bool false,.slice none 0 0,.slice none 0 0] 142)):=(Below.refl _ _).alloc (Nat.le_refl _) _
     go_simp
     refine hK.out _ _ ?_
     rw [HInv8.out]
     exact ⟨b0,b1,b2,b3,b4,b5,b6,true,b8,u61,u62,u63,u64,u65,u66,u67,(.pointer (some ⟨W.heap.size,0,none⟩)),A8_2,n8_2,c8_2,A8_2',n8_2',c8_2',A8_4,n8_4,c8_4,A8_4',n8_4',c8_4',A8_6,n8_6,c8_6,A8_6',n8_6',c8_6',W.heap.size,rfl,rfl,(Nat.le_trans hGW hb.size),(hB8.trans (hb.mono hB8.size)),(a8.below hb a8.lt),(m8.below hb m8.lt),(k8.below hb k8.lt),(r8.below hb r8.lt),(t98.below hb t98.lt),(t108.below hb t108.lt),(qn8.later hb),(qv8.later hb),(qr8.later hb),(t118.below hb t118.lt),f0,f1,(fun h=>⟨(f2 h).1,(f2 h).2.later hb⟩),f3,(fun h=>⟨(f4 h).1,(f4 h).2.later hb⟩),f5,(fun h=>⟨(f6 h).1,(f6 h).2.later hb⟩),(fun _=>⟨rfl,hGW,by simp,fun _=>CBlk.new W _ _ _ rfl⟩),(fun h=>by rw [(f8 h).1] at hun;cases hun)⟩
    | 8,ho,hl,hdep=>
     have hun:b8=false:=Option.some.inj hl
     obtain rfl:=Option.some.inj ho
     have e7:b7=true:=hdep ⟨7,.data⟩ (by simp) rfl
     obtain ⟨rfl,hGj,hjW,hzz⟩:=f7 e7
     have e6:b6=true:=hdep ⟨6,.data⟩ (by simp) rfl
     obtain ⟨rfl,rr6⟩:=f6 e6
     refine zaF ho fun K' hK => ?_
     have hz:=hzz hun
     have z0:=hz.cell 0
     have z1:=hz.cell 1
     have z2:=hz.cell 2
     have zf0:=hz.frozen 0
     have zf1:=hz.frozen 1
     have zf2:=hz.frozen 2
     go_simp
     refine hK.out _ _ ?_
     rw [HInv8.out]
     exact ⟨b0,b1,b2,b3,b4,b5,b6,b7,true,u61,u62,u63,u64,u65,u66,(.agg #[.bool sl.neg,.slice A8_6 n8_6 c8_6,.slice A8_6' n8_6' c8_6']),(.pointer (some ⟨j8_7,0,none⟩)),A8_2,n8_2,c8_2,A8_2',n8_2',c8_2',A8_4,n8_4,c8_4,A8_4',n8_4',c8_4',A8_6,n8_6,c8_6,A8_6',n8_6',c8_6',j8_7,rfl,rfl,(by rw [zah];exact hGW),(zao hB8 (Nat.le_trans le8 hGj) _ _ _),(a8.far3 (Nat.ne_of_gt (Nat.lt_of_lt_of_le lt8_a8 hGj)) _ _ _),(m8.far3 (Nat.ne_of_gt (Nat.lt_of_lt_of_le lt8_m8 hGj)) _ _ _),(k8.far3 (Nat.ne_of_gt (Nat.lt_of_lt_of_le lt8_k8 hGj)) _ _ _),(r8.far3 (Nat.ne_of_gt (Nat.lt_of_lt_of_le lt8_r8 hGj)) _ _ _),(t98.far3 (Nat.ne_of_gt (Nat.lt_of_lt_of_le lt8_t98 hGj)) _ _ _),(t108.far3 (Nat.ne_of_gt (Nat.lt_of_lt_of_le lt8_t108 hGj)) _ _ _),(qn8.res3 hz _ _ _),(qv8.res3 hz _ _ _),(qr8.res3 hz _ _ _),(t118.far3 (Nat.ne_of_gt (Nat.lt_of_lt_of_le lt8_t118 hGj)) _ _ _),f0,f1,(fun h=>⟨(f2 h).1,(f2 h).2.res3 hz _ _ _⟩),f3,(fun h=>⟨(f4 h).1,(f4 h).2.res3 hz _ _ _⟩),f5,(fun h=>⟨(f6 h).1,(f6 h).2.res3 hz _ _ _⟩),(fun h=>⟨(f7 h).1,(f7 h).2.1,by rw [zah];exact (f7 h).2.2.1,fun h2=>by cases h2⟩),(fun _=>⟨e7,e6,hz.set3 _ _ _⟩)⟩
    | n+9,ho,hl,hdep=>exact absurd ho (by simp)
   ·intro listed ac w9 hI hall
    rw [HInv8.out] at hI
    clear hB8 a8 m8 k8 r8 t98 t108 qn8 qv8 qr8 t118
    obtain ⟨b0,b1,b2,b3,b4,b5,b6,b7,b8,u61,u62,u63,u64,u65,u66,u67,u12,A8_2,n8_2,c8_2,A8_2',n8_2',c8_2',A8_4,n8_4,c8_4,A8_4',n8_4',c8_4',A8_6,n8_6,c8_6,A8_6',n8_6',c8_6',j8_7,rfl,rfl,hGW,hB9,a9,m9,k9,r9,t99,t109,qn9,qv9,qr9,t119,f0,f1,f2,f3,f4,f5,f6,f7,f8⟩:=hI
    have e0:b0=true:=hall 0 b0 (by decide) rfl
    have e1:b1=true:=hall 1 b1 (by decide) rfl
    have e2:b2=true:=hall 2 b2 (by decide) rfl
    have e3:b3=true:=hall 3 b3 (by decide) rfl
    have e4:b4=true:=hall 4 b4 (by decide) rfl
    have e5:b5=true:=hall 5 b5 (by decide) rfl
    have e6:b6=true:=hall 6 b6 (by decide) rfl
    have e7:b7=true:=hall 7 b7 (by decide) rfl
    have e8:b8=true:=hall 8 b8 (by decide) rfl
    subst e0
    subst e1
    subst e2
    subst e3
    subst e4
    subst e5
    subst e6
    subst e7
    subst e8
    obtain rfl:=f0 rfl
    obtain rfl:=f1 rfl
    obtain ⟨rfl,q63⟩:=f2 rfl
    obtain rfl:=f3 rfl
    obtain ⟨rfl,q65⟩:=f4 rfl
    obtain rfl:=f5 rfl
    obtain ⟨rfl,qs⟩:=f6 rfl
    obtain ⟨rfl,hGj8_7,_,_⟩:=f7 rfl
    have t12:=(f8 rfl).2.2
    clear f0 f1 f2 f3 f4 f5 f6 f7 f8 hall HInv8 lt8_a8 lt8_m8 lt8_k8 lt8_r8 lt8_t98 lt8_t108 lt8_t118
    clear I4 H2 H3 q63 q65
    have hT9:=hT.later hB9
    have z0:=t12.cell 0
    have z1:=t12.cell 1
    have z2:=t12.cell 2
    by_cases hsg:sg≤0
    ·have d0:decide (sg≤0)=true:=decide_eq_true hsg
     have HR:=Lib.hid (HBAD.out hsg)
     clear HBAD HGOOD
     go_wp2_with fail
     refine (H4.out _ w9 qs).mono ?_
     rintro e w10 ⟨rfl,hb10⟩
     have hB10:=hB9.trans (hb10.mono hB9.size)
     have r10:=r9.below hb10 r9.lt
     clear z0 z1 z2
     have y0:=r10.cell 0
     have y1:=r10.cell 1
     have y2:=r10.cell 2
     have y3:=r10.cell 3
     have y4:=r10.cell 4
     have g0:=r10.frozen 0
     have g1:=r10.frozen 1
     have g2:=r10.frozen 2
     have g3:=r10.frozen 3
     have g4:=r10.frozen 4
     have hset:=zkf hB10 (g:=w.heap.size+1+1+1) (by omega) (.int .i64 0) (.int .i64 0) (.int .i64 0) (.string { data:=#[] }) (.string { data:=#[] })
     go_wp2_with fail
     refine bodyPost_ret (v := .tuple #[.agg #[.int .i64 0,.int .i64 0,.int .i64 0,.string { data:=#[] },.string { data:=#[] }],.int .i64 3]) (by simp [results,Tryz.results40,go_sem,y0,y1,y2,y3,y4]) rfl ⟨by rw [HR.out],hset⟩
    have d0:decide (sg≤0)=false:=decide_eq_false hsg
    have HR:=Lib.hid (HGOOD.out (by omega))
    clear HBAD HGOOD hsg
    go_wp2_with fail
    refine (H4.out _ w9 qs).mono ?_
    rintro e w10 ⟨rfl,hb10⟩
    have hT10:=hT9.later hb10
    have hB10:=hB9.trans (hb10.mono hB9.size)
    have t12':=t12.below hb10 t12.lt
    clear z0 z1 z2
    have z0:=t12'.cell 0
    have z1:=t12'.cell 1
    have z2:=t12'.cell 2
    have qs10:=qs.later hb10
    go_wp2_with fail
    refine (H5.out _ w10 hT10 qs10).mono ?_
    rintro e w11 ⟨rfl,hb11⟩
    have hT11:=hT10.later hb11
    have hB11:=hB10.trans (hb11.mono hB10.size)
    have hbx:Below w9.heap.size w9 w11:=hb10.trans (hb11.mono hb10.size)
    have q11:=t12.below hbx t12.lt
    have p11:=t109.below hbx t109.lt
    have s11:=t99.below hbx t99.lt
    have a11:=a9.below hbx a9.lt
    have r11:=r9.below hbx r9.lt
    have qs11:=qs10.later hb11
    have qn11:=qn9.later hbx
    have qv11:=qv9.later hbx
    clear z0 z1 z2 t12 t12' t109 t99 t119 a9 m9 k9 r9 qs qs10 qn9 qv9 qr9 hb10 hb11 hbx hT9 hT10 hB9 hB10 H4 H5
    have hD11:Tabs w11.drew:=hT11.later (Below.drew (Below.refl _ _))
    have qs11d:RatD w11.drew w11.drew.heap.size (.agg #[.bool sl.neg,.slice A8_6 n8_6 c8_6,.slice A8_6' n8_6' c8_6']) ⟨sl.neg,sl.top,sl.bot⟩:=qs11.later (Below.drew (Below.refl _ _))
    have qn11d:RatD w11.drew w11.drew.heap.size (.agg #[.bool n1.neg,.slice A6_5 n6_5 c6_5,.slice A6_5' n6_5' c6_5']) ⟨n1.neg,n1.top,n1.bot⟩:=qn11.later (Below.drew (Below.refl _ _))
    go_wp2_with fail
    go_region_held3 (fun w'=>w'.cell? ⟨j6_10,0,none⟩=some (.bool p1.neg)∧w'.cell? ⟨j6_10,1,none⟩=some (.slice A6_8 n6_8 c6_8)∧w'.cell? ⟨j6_10,2,none⟩=some (.slice A6_8' n6_8' c6_8')∧w'.cell? ⟨j8_7,0,none⟩=some (.bool sl.neg)∧w'.cell? ⟨j8_7,1,none⟩=some (.slice A8_6 n8_6 c8_6)∧w'.cell? ⟨j8_7,2,none⟩=some (.slice A8_6' n8_6' c8_6')∧w'.cell? ⟨j6_9,0,none⟩=some (.bool n1.neg)∧w'.cell? ⟨j6_9,1,none⟩=some (.slice A6_5 n6_5 c6_5)∧w'.cell? ⟨j6_9,2,none⟩=some (.slice A6_5' n6_5' c6_5'))
      ((refine ⟨?_,?_,?_,?_,?_,?_,?_,?_,?_⟩<;>first | ((with_reducible refine (p14.cell _).trans ?_);rfl) | ((with_reducible refine (q14.cell _).trans ?_);rfl) | ((with_reducible refine (s14.cell _).trans ?_);rfl) | ((with_reducible refine (p13.cell _).trans ?_);rfl) | ((with_reducible refine (q13.cell _).trans ?_);rfl) | ((with_reducible refine (s13.cell _).trans ?_);rfl) | ((with_reducible refine (p12.cell _).trans ?_);rfl) | ((with_reducible refine (q12.cell _).trans ?_);rfl) | ((with_reducible refine (s12.cell _).trans ?_);rfl) | ((with_reducible refine (p11.cell _).trans ?_);rfl) | ((with_reducible refine (q11.cell _).trans ?_);rfl) | ((with_reducible refine (s11.cell _).trans ?_);rfl) | ((with_reducible refine (p11.drew.cell _).trans ?_);rfl) | ((with_reducible refine (q11.drew.cell _).trans ?_);rfl) | ((with_reducible refine (s11.drew.cell _).trans ?_);rfl)))
     (first
      |(go_at_call 96;refine (H8.out _ w13 hT13 hq13).mono ?_;rintro e w14 ⟨rfl,hb14⟩;have p14:=p13.below hb14 p13.lt;have q14:=q13.below hb14 q13.lt;have s14:=s13.below hb14 s13.lt;have hT14:=hT13.later hb14)
      |(go_at_call 93;refine (H7.out _ _ w12 hT12 hv12 hq12).mono ?_;rintro e w13 ⟨A13,n13,c13,A13',n13',c13',rfl,hq13,hb13⟩;have p13:=p12.below hb13 p12.lt;have q13:=q12.below hb13 q12.lt;have s13:=s12.below hb13 s12.lt;have hT13:=hT12.later hb13)
      |(go_at_call 97;refine (H6.out _ _ w11.drew hD11 qs11d qn11d).mono ?_;rintro e w12 ⟨A12,n12,c12,A12',n12',c12',rfl,hq12,hb12'⟩;have hb12:Below w11.heap.size w11 w12:=⟨hb12'.os,hb12'.tape,hb12'.output,hb12'.size,hb12'.block⟩;clear hb12';have p12:=p11.below hb12 p11.lt;have q12:=q11.below hb12 q11.lt;have s12:=s11.below hb12 s11.lt;have hT12:=hT11.later hb12;have hv12:=qv11.later hb12))
    have hb15:Below w11.heap.size w11 w14:=(hb12.trans (hb13.mono hb12.size)).trans (hb14.mono (Nat.le_trans hb12.size hb13.size))
    have hB14:=hB11.trans (hb15.mono hB11.size)
    have a14:=a11.below hb15 a11.lt
    have r14:=r11.below hb15 r11.lt
    clear H6 H7 H8 hD11 qs11d qn11d qs11 qn11 qv11 hv12 hq12 hq13 p11 p12 p13 p14 q11 q12 q13 q14 s11 s12 s13 s14 hT11 hT12 hT13 hb12 hb13 hb14 hb15 a11 r11
    go_wp2_with fail
    refine (za7 0 0 w14 _ _ rfl).mono ?_
    rintro e w16 ⟨rfl,rfl⟩
    have hb16:Below w14.heap.size w14 (w14.alloc (.cells #[.int .i64 0,.int .i64 0] 30)):=(Below.refl _ _).alloc (Nat.le_refl _) _
    have a16:=a14.below hb16 a14.lt
    have r16:=r14.below hb16 r14.lt
    have hB16:=hB14.trans (hb16.mono hB14.size)
    generalize w14.alloc (.cells #[.int .i64 0,.int .i64 0] 30)=w16 at *
    have x0:=a16.cell 0
    have x1:=a16.cell 1
    have x2:=a16.cell 2
    have x3:=a16.cell 3
    have x4:=a16.cell 4
    clear hb16 a14 r14 hB14
    go_wp2_with fail
    refine (zdF a st z g o gs ot w16).mono ?_
    rintro e w17 ⟨rfl,hb17⟩
    have r17:=r16.below hb17 r16.lt
    have hB17:=hB16.trans (hb17.mono hB16.size)
    clear x0 x1 x2 x3 x4 hb17 a16 r16 hB16
    have y0:=r17.cell 0
    have y1:=r17.cell 1
    have y2:=r17.cell 2
    have y3:=r17.cell 3
    have y4:=r17.cell 4
    have g0:=r17.frozen 0
    have g1:=r17.frozen 1
    have g2:=r17.frozen 2
    have g3:=r17.frozen 3
    have g4:=r17.frozen 4
    have hset:=zkf hB17 (g:=w.heap.size+1+1+1) (by omega) (.int .i64 a) (.int .i64 st) (.int .i64 z) (.string gs) (.string ot)
    go_wp2_with fail
    refine bodyPost_ret (v := .tuple #[.agg #[.int .i64 a,.int .i64 st,.int .i64 z,.string gs,.string ot],.int .i64 0]) (by simp [results,Tryz.results40,go_sem,y0,y1,y2,y3,y4]) rfl ⟨by rw [HR.out],hset⟩
end Go.Proofs.YtmkihdjolnlccaaGreatDoor
