/- Chapter 2's examples: awake returns true. -/
import Derived.Test.YtmkihdjolnlccaaGreatDoorQSms
import Derived.Test.YtmkihdjolnlccaaGreatDoorQAl2
import Derived.Test.YtmkihdjolnlccaaGreatDoorQAwe
namespace Go.Proofs.YtmkihdjolnlccaaGreatDoor
open Go.RowKit Bn
open Flt
theorem CBlk.range {w:World} {g:Nat} {c:Array Value} {t:TypeId} (h:CBlk w g c t):w.rangeAt g 0 c.toList:=fun j v hv=>by
 rw [Nat.zero_add,h.cell j]
 simpa using hv
set_option maxHeartbeats 8000000 in
set_option maxRecDepth 100000 in
theorem zp4 (w:World) (hT:Tabs w):Calls Tryz.prog 10 #[] w fun e w'=>e = .returned (.bool true)∧Below w.heap.size w w':=by
 go_enter Tryz.func10,Tryz.ntmps10
 go_wp2_with fail
 refine (ztt w).mono ?_
 rintro e w1 ⟨rfl,hbw1⟩
 have hBw1:=hbw1
 clear hbw1
 have hTw1:=hT.later hBw1
 have hle1:=hBw1.size
 have hBa1:Below w.heap.size w (w1.alloc (.cells #[.int .i64 8,.int .i64 (-3),.int .i64 128,.string { data:=#[49] },.string { data:=#[48] }] 33)):=hBw1.alloc hBw1.size _
 have a_a1:CBlk (w1.alloc (.cells #[.int .i64 8,.int .i64 (-3),.int .i64 128,.string { data:=#[49] },.string { data:=#[48] }] 33)) (w1.heap.size) #[.int .i64 8,.int .i64 (-3),.int .i64 128,.string { data:=#[49] },.string { data:=#[48] }] 33:=CBlk.new _ _ _ _ (by simp)
 clear hBw1
 have x_a0:=a_a1.cell 0
 have x_a1:=a_a1.cell 1
 have x_a2:=a_a1.cell 2
 have x_a3:=a_a1.cell 3
 have x_a4:=a_a1.cell 4
 go_wp2_with fail
 generalize (w1.alloc (.cells #[.int .i64 8,.int .i64 (-3),.int .i64 128,.string { data:=#[49] },.string { data:=#[48] }] 33))=v1 at *
 have hT1g:=hT.later hBa1
 refine (zst v1 hT1g).mono ?_
 rintro e w2 ⟨rfl,hbw2⟩
 have hBw2:=hBa1.trans (hbw2.mono hBa1.size)
 have a_w2:=a_a1.below hbw2 a_a1.lt
 clear hbw2 a_a1 hBa1 x_a0 x_a1 x_a2 x_a3 x_a4
 have hTw2:=hT.later hBw2
 have hBa2:Below w.heap.size w (w2.alloc (.cells #[.string { data:=#[45,49,54] },.string { data:=#[49,50,55,47,56] }] 55)):=hBw2.alloc hBw2.size _
 have a_a2:=a_w2.alloc (.cells #[.string { data:=#[45,49,54] },.string { data:=#[49,50,55,47,56] }] 55)
 have f_a2:CBlk (w2.alloc (.cells #[.string { data:=#[45,49,54] },.string { data:=#[49,50,55,47,56] }] 55)) (w2.heap.size) #[.string { data:=#[45,49,54] },.string { data:=#[49,50,55,47,56] }] 55:=CBlk.new _ _ _ _ (by simp)
 clear a_w2 hBw2
 have x_a0:=a_a2.cell 0
 have x_a1:=a_a2.cell 1
 have x_a2:=a_a2.cell 2
 have x_a3:=a_a2.cell 3
 have x_a4:=a_a2.cell 4
 go_wp2_with fail
 generalize (w2.alloc (.cells #[.string { data:=#[45,49,54] },.string { data:=#[49,50,55,47,56] }] 55))=v2 at *
 have hT2g:=hT.later hBa2
 refine (zrE v2 hT2g).mono ?_
 rintro e w3 ⟨rfl,hbw3⟩
 have hBw3:=hBa2.trans (hbw3.mono hBa2.size)
 have a_w3:=a_a2.below hbw3 a_a2.lt
 have f_w3:=f_a2.below hbw3 f_a2.lt
 clear hbw3 a_a2 f_a2 hBa2 x_a0 x_a1 x_a2 x_a3 x_a4
 have hTw3:=hT.later hBw3
 have x_a0:=a_w3.cell 0
 have x_a1:=a_w3.cell 1
 have x_a2:=a_w3.cell 2
 have x_a3:=a_w3.cell 3
 have x_a4:=a_w3.cell 4
 go_wp2_with fail
 refine (zqA w3 hTw3).mono ?_
 rintro e w4 ⟨rfl,hbw4⟩
 have hBw4:=hBw3.trans (hbw4.mono hBw3.size)
 have a_w4:=a_w3.below hbw4 a_w3.lt
 have f_w4:=f_w3.below hbw4 f_w3.lt
 clear hbw4 a_w3 f_w3 hBw3 x_a0 x_a1 x_a2 x_a3 x_a4
 have hTw4:=hT.later hBw4
 have x_a0:=a_w4.cell 0
 have x_a1:=a_w4.cell 1
 have x_a2:=a_w4.cell 2
 have x_a3:=a_w4.cell 3
 have x_a4:=a_w4.cell 4
 go_wp2_with fail
 refine (zli w4 hTw4 _ _ rfl).mono ?_
 rintro e w5 ⟨g5,rfl,_,hr5,hbw5⟩
 have hBw5:=hBw4.trans (hbw5.mono hBw4.size)
 have a_w5:=a_w4.below hbw5 a_w4.lt
 have f_w5:=f_w4.below hbw5 f_w4.lt
 clear hbw5 a_w4 f_w4 hBw4 x_a0 x_a1 x_a2 x_a3 x_a4
 have hTw5:=hT.later hBw5
 have x_a0:=a_w5.cell 0
 have x_a1:=a_w5.cell 1
 have x_a2:=a_w5.cell 2
 have x_a3:=a_w5.cell 3
 have x_a4:=a_w5.cell 4
 go_wp2_with fail
 refine (zkP w5 hTw5 (some ⟨g5,0,none⟩) hr5).mono ?_
 rintro e w6 ⟨g6,rfl,_,hr6,hbw6⟩
 have hBw6:=hBw5.trans (hbw6.mono hBw5.size)
 have a_w6:=a_w5.below hbw6 a_w5.lt
 have f_w6:=f_w5.below hbw6 f_w5.lt
 have s_w6:=hr5.later hbw6
 clear hbw6 a_w5 f_w5 hr5 hBw5 x_a0 x_a1 x_a2 x_a3 x_a4
 have hTw6:=hT.later hBw6
 have x_a0:=a_w6.cell 0
 have x_a1:=a_w6.cell 1
 have x_a2:=a_w6.cell 2
 have x_a3:=a_w6.cell 3
 have x_a4:=a_w6.cell 4
 go_wp2_with fail
 refine (zlx w6 hTw6 (some ⟨g5,0,none⟩) s_w6).mono ?_
 rintro e w7 ⟨g7,c7,rfl,hr7,hbw7⟩
 have hBw7:=hBw6.trans (hbw7.mono hBw6.size)
 have a_w7:=a_w6.below hbw7 a_w6.lt
 have f_w7:=f_w6.below hbw7 f_w6.lt
 have s_w7:=s_w6.later hbw7
 have k_w7:=hr6.later hbw7
 clear hbw7 a_w6 f_w6 s_w6 hr6 hBw6 x_a0 x_a1 x_a2 x_a3 x_a4
 have hTw7:=hT.later hBw7
 clear s_w7
 have x_a0:=a_w7.cell 0
 have x_a1:=a_w7.cell 1
 have x_a2:=a_w7.cell 2
 have x_a3:=a_w7.cell 3
 have x_a4:=a_w7.cell 4
 go_wp2_with fail
 refine (zho w7 hTw7).mono ?_
 rintro e w8 ⟨rfl,hbw8⟩
 have hBw8:=hBw7.trans (hbw8.mono hBw7.size)
 have a_w8:=a_w7.below hbw8 a_w7.lt
 have f_w8:=f_w7.below hbw8 f_w7.lt
 have k_w8:=k_w7.later hbw8
 have r_w8:=hr7.later hbw8
 clear hbw8 a_w7 f_w7 k_w7 hr7 hBw7 x_a0 x_a1 x_a2 x_a3 x_a4
 have hTw8:=hT.later hBw8
 have hBa3:Below w.heap.size w (w8.alloc (.cells #[.int .i64 8,.int .i64 (-3),.int .i64 128,.string { data:=#[50] },.string { data:=#[49,47,50] }] 33)):=hBw8.alloc hBw8.size _
 have a_a3:=a_w8.alloc (.cells #[.int .i64 8,.int .i64 (-3),.int .i64 128,.string { data:=#[50] },.string { data:=#[49,47,50] }] 33)
 have f_a3:=f_w8.alloc (.cells #[.int .i64 8,.int .i64 (-3),.int .i64 128,.string { data:=#[50] },.string { data:=#[49,47,50] }] 33)
 have k_a3:=k_w8.later ((Below.refl _ _).alloc (Nat.le_refl _) (.cells #[.int .i64 8,.int .i64 (-3),.int .i64 128,.string { data:=#[50] },.string { data:=#[49,47,50] }] 33))
 have r_a3:=r_w8.later ((Below.refl _ _).alloc (Nat.le_refl _) (.cells #[.int .i64 8,.int .i64 (-3),.int .i64 128,.string { data:=#[50] },.string { data:=#[49,47,50] }] 33))
 have x_a3:CBlk (w8.alloc (.cells #[.int .i64 8,.int .i64 (-3),.int .i64 128,.string { data:=#[50] },.string { data:=#[49,47,50] }] 33)) (w8.heap.size) #[.int .i64 8,.int .i64 (-3),.int .i64 128,.string { data:=#[50] },.string { data:=#[49,47,50] }] 33:=CBlk.new _ _ _ _ (by simp)
 clear a_w8 f_w8 k_w8 r_w8 hBw8
 have x_x0:=x_a3.cell 0
 have x_x1:=x_a3.cell 1
 have x_x2:=x_a3.cell 2
 have x_x3:=x_a3.cell 3
 have x_x4:=x_a3.cell 4
 have x_f0:=f_a3.cell 0
 have x_f1:=f_a3.cell 1
 have hBa4:Below w.heap.size w ((w8.alloc (.cells #[.int .i64 8,.int .i64 (-3),.int .i64 128,.string { data:=#[50] },.string { data:=#[49,47,50] }] 33)).alloc (.cells #[.int .i64 0,.int .i64 128,.int .i64 129,.int .i64 255,.int .i64 255] 3)):=hBa3.alloc hBa3.size _
 have a_a4:=a_a3.alloc (.cells #[.int .i64 0,.int .i64 128,.int .i64 129,.int .i64 255,.int .i64 255] 3)
 have f_a4:=f_a3.alloc (.cells #[.int .i64 0,.int .i64 128,.int .i64 129,.int .i64 255,.int .i64 255] 3)
 have k_a4:=k_a3.later ((Below.refl _ _).alloc (Nat.le_refl _) (.cells #[.int .i64 0,.int .i64 128,.int .i64 129,.int .i64 255,.int .i64 255] 3))
 have r_a4:=r_a3.later ((Below.refl _ _).alloc (Nat.le_refl _) (.cells #[.int .i64 0,.int .i64 128,.int .i64 129,.int .i64 255,.int .i64 255] 3))
 have x_a4:=x_a3.alloc (.cells #[.int .i64 0,.int .i64 128,.int .i64 129,.int .i64 255,.int .i64 255] 3)
 have i5_a4:CBlk ((w8.alloc (.cells #[.int .i64 8,.int .i64 (-3),.int .i64 128,.string { data:=#[50] },.string { data:=#[49,47,50] }] 33)).alloc (.cells #[.int .i64 0,.int .i64 128,.int .i64 129,.int .i64 255,.int .i64 255] 3)) (w8.heap.size+1) #[.int .i64 0,.int .i64 128,.int .i64 129,.int .i64 255,.int .i64 255] 3:=CBlk.new _ _ _ _ (by simp)
 clear a_a3 f_a3 k_a3 r_a3 x_a3 hBa3
 have x_x0:=x_a4.cell 0
 have x_x1:=x_a4.cell 1
 have x_x2:=x_a4.cell 2
 have x_x3:=x_a4.cell 3
 have x_x4:=x_a4.cell 4
 have x_f0:=f_a4.cell 0
 have x_f1:=f_a4.cell 1
 have qsp:∀ W:World,(Op.equalIn 10000 55 (.agg #[.string { data:=#[45,49,54] },.string { data:=#[49,50,55,47,56] }]) (.agg #[.string { data:=#[45,49,54] },.string { data:=#[49,50,55,47,56] }])).run Tryz.prog W = .ok true W:=fun W=>by kernel_rfl
 have qv:FloatKind.f32.format.order 1048576000 1048576000=some .eq:=by decide +kernel
 go_wp2_with fail
 generalize ((w8.alloc (.cells #[.int .i64 8,.int .i64 (-3),.int .i64 128,.string { data:=#[50] },.string { data:=#[49,47,50] }] 33)).alloc (.cells #[.int .i64 0,.int .i64 128,.int .i64 129,.int .i64 255,.int .i64 255] 3))=v8 at *
 have hT4g:=hT.later hBa4
 have li5:zae v8 v8.heap.size 1 (some ⟨w8.heap.size+1,0,none⟩) 5 (([0,128,129,255,255]:List Int).map i64v):=zae.blk (xs:=[.int .i64 0,.int .i64 128,.int .i64 129,.int .i64 255,.int .i64 255]) i5_a4 (by show 5≤maxLen;unfold maxLen;omega)
 refine (zfF (some ⟨g6,0,none⟩) (some ⟨w8.heap.size+1,0,none⟩) 5 5 5 [0,128,129,255,255] v8 k_a4 li5 (by unfold maxLen;omega)).mono ?_
 rintro e w9 ⟨rfl,hbw9⟩
 have hBw9:=hBa4.trans (hbw9.mono hBa4.size)
 have a_w9:=a_a4.below hbw9 a_a4.lt
 have f_w9:=f_a4.below hbw9 f_a4.lt
 have k_w9:=k_a4.later hbw9
 have r_w9:=r_a4.later hbw9
 have x_w9:=x_a4.below hbw9 x_a4.lt
 have i5_w9:=i5_a4.below hbw9 i5_a4.lt
 clear hbw9 a_a4 f_a4 k_a4 r_a4 x_a4 i5_a4 hBa4 x_x0 x_x1 x_x2 x_x3 x_x4 x_f0 x_f1
 have hTw9:=hT.later hBw9
 have hBa5:Below w.heap.size w (w9.alloc (.cells #[.int .i64 0,.int .i64 1,.int .i64 3,.int .i64 5] 94)):=hBw9.alloc hBw9.size _
 have a_a5:=a_w9.alloc (.cells #[.int .i64 0,.int .i64 1,.int .i64 3,.int .i64 5] 94)
 have f_a5:=f_w9.alloc (.cells #[.int .i64 0,.int .i64 1,.int .i64 3,.int .i64 5] 94)
 have r_a5:=r_w9.later ((Below.refl _ _).alloc (Nat.le_refl _) (.cells #[.int .i64 0,.int .i64 1,.int .i64 3,.int .i64 5] 94))
 have x_a5:=x_w9.alloc (.cells #[.int .i64 0,.int .i64 1,.int .i64 3,.int .i64 5] 94)
 have r4_a5:CBlk (w9.alloc (.cells #[.int .i64 0,.int .i64 1,.int .i64 3,.int .i64 5] 94)) (w9.heap.size) #[.int .i64 0,.int .i64 1,.int .i64 3,.int .i64 5] 94:=CBlk.new _ _ _ _ (by simp)
 clear a_w9 f_w9 r_w9 x_w9 hBw9
 go_wp2_with fail
 generalize (w9.alloc (.cells #[.int .i64 0,.int .i64 1,.int .i64 3,.int .i64 5] 94))=v9 at *
 have hT5g:=hT.later hBa5
 have lr4:zae v9 v9.heap.size 2 (some ⟨w9.heap.size,0,none⟩) 2 [.int .i64 0,.int .i64 1,.int .i64 3,.int .i64 5]:=zae.of_own (zb1 (base:=0) (size:=2) r4_a5 (Nat.zero_le _) (by unfold maxLen;omega) rfl)
 refine (zjl g7 w9.heap.size c7 2 v9 r_a5 lr4).mono ?_
 rintro e w10 ⟨rfl,hbw10⟩
 have hBw10:=hBa5.trans (hbw10.mono hBa5.size)
 have a_w10:=a_a5.below hbw10 a_a5.lt
 have f_w10:=f_a5.below hbw10 f_a5.lt
 have r_w10:=r_a5.later hbw10
 have x_w10:=x_a5.below hbw10 x_a5.lt
 have r4_w10:=r4_a5.below hbw10 r4_a5.lt
 clear hbw10 a_a5 f_a5 r_a5 x_a5 r4_a5 hBa5
 have hTw10:=hT.later hBw10
 have x_x0:=x_w10.cell 0
 have x_x1:=x_w10.cell 1
 have x_x2:=x_w10.cell 2
 have x_x3:=x_w10.cell 3
 have x_x4:=x_w10.cell 4
 have x_a0:=a_w10.cell 0
 have xf_a0:=a_w10.frozen 0
 have x_a1:=a_w10.cell 1
 have xf_a1:=a_w10.frozen 1
 have x_a2:=a_w10.cell 2
 have xf_a2:=a_w10.frozen 2
 have x_a3:=a_w10.cell 3
 have xf_a3:=a_w10.frozen 3
 have x_a4:=a_w10.cell 4
 have xf_a4:=a_w10.frozen 4
 have hBs:Below w.heap.size w ((w10.setCell ⟨w1.heap.size,3,none⟩ (.string { data:=#[50] })).setCell ⟨w1.heap.size,4,none⟩ (.string { data:=#[49] })):=(hBw10.setCell (p:=⟨w1.heap.size,3,none⟩) hle1 _).setCell (p:=⟨w1.heap.size,4,none⟩) hle1 _
 have asx:CBlk ((w10.setCell ⟨w1.heap.size,3,none⟩ (.string { data:=#[50] })).setCell ⟨w1.heap.size,4,none⟩ (.string { data:=#[49] })) w1.heap.size #[.int .i64 8,.int .i64 (-3),.int .i64 128,.string { data:=#[50] },.string { data:=#[49] }] 33:=heap_setCell_same _ w1.heap.size 4 #[.int .i64 8,.int .i64 (-3),.int .i64 128,.string { data:=#[50] },.string { data:=#[48] }] 33 (.string { data:=#[49] }) (heap_setCell_same w10 w1.heap.size 3 #[.int .i64 8,.int .i64 (-3),.int .i64 128,.string { data:=#[49] },.string { data:=#[48] }] 33 (.string { data:=#[50] }) a_w10)
 clear hBw10 a_w10 f_w10 x_w10
 have x_a0:=asx.cell 0
 have x_a1:=asx.cell 1
 have x_a2:=asx.cell 2
 have x_a3:=asx.cell 3
 have x_a4:=asx.cell 4
 go_wp2_with fail
 generalize ((w10.setCell ⟨w1.heap.size,3,none⟩ (.string { data:=#[50] })).setCell ⟨w1.heap.size,4,none⟩ (.string { data:=#[49] }))=v10 at *
 have hT5g:=hT.later hBs
 refine (zrQ v10 (hT.later hBs)).mono ?_
 rintro e w12 ⟨rfl,hbw12⟩
 have hBw12:=hBs.trans (hbw12.mono hBs.size)
 have a_w12:=asx.below hbw12 asx.lt
 clear hbw12 asx hBs x_x0 x_x1 x_x2 x_x3 x_x4 x_a0 xf_a0 x_a1 xf_a1 x_a2 xf_a2 x_a3 xf_a3 x_a4 xf_a4
 have hTw12:=hT.later hBw12
 have hBa6:Below w.heap.size w (w12.alloc (.cells #[.string { data:=#[57,47,56] },.string { data:=#[49,49,47,56] }] 55)):=hBw12.alloc hBw12.size _
 have a_a6:=a_w12.alloc (.cells #[.string { data:=#[57,47,56] },.string { data:=#[49,49,47,56] }] 55)
 have t_a6:CBlk (w12.alloc (.cells #[.string { data:=#[57,47,56] },.string { data:=#[49,49,47,56] }] 55)) (w12.heap.size) #[.string { data:=#[57,47,56] },.string { data:=#[49,49,47,56] }] 55:=CBlk.new _ _ _ _ (by simp)
 clear a_w12 hBw12
 have x_a0:=a_a6.cell 0
 have x_a1:=a_a6.cell 1
 have x_a2:=a_a6.cell 2
 have x_a3:=a_a6.cell 3
 have x_a4:=a_a6.cell 4
 go_wp2_with fail
 generalize (w12.alloc (.cells #[.string { data:=#[57,47,56] },.string { data:=#[49,49,47,56] }] 55))=v12 at *
 have hT6g:=hT.later hBa6
 refine (ziq v12 hT6g).mono ?_
 rintro e w13 ⟨rfl,hbw13⟩
 have hBw13:=hBa6.trans (hbw13.mono hBa6.size)
 have a_w13:=a_a6.below hbw13 a_a6.lt
 have t_w13:=t_a6.below hbw13 t_a6.lt
 clear hbw13 a_a6 t_a6 hBa6 x_a0 x_a1 x_a2 x_a3 x_a4
 have hTw13:=hT.later hBw13
 have hBa7:Below w.heap.size w (w13.alloc (.cells #[.string { data:=#[] },.string { data:=#[] }] 55)):=hBw13.alloc hBw13.size _
 have a_a7:=a_w13.alloc (.cells #[.string { data:=#[] },.string { data:=#[] }] 55)
 have t_a7:=t_w13.alloc (.cells #[.string { data:=#[] },.string { data:=#[] }] 55)
 clear a_w13 t_w13 hBw13
 have hBa8:Below w.heap.size w ((w13.alloc (.cells #[.string { data:=#[] },.string { data:=#[] }] 55)).alloc (.cells #[.float .f32 0,.float .f32 1065353216,.float .f32 1056964608,.float .f32 0,.float .f32 1056964608,.float .f32 1065353216] 64)):=hBa7.alloc hBa7.size _
 have a_a8:=a_a7.alloc (.cells #[.float .f32 0,.float .f32 1065353216,.float .f32 1056964608,.float .f32 0,.float .f32 1056964608,.float .f32 1065353216] 64)
 have t_a8:=t_a7.alloc (.cells #[.float .f32 0,.float .f32 1065353216,.float .f32 1056964608,.float .f32 0,.float .f32 1056964608,.float .f32 1065353216] 64)
 have d_a8:CBlk ((w13.alloc (.cells #[.string { data:=#[] },.string { data:=#[] }] 55)).alloc (.cells #[.float .f32 0,.float .f32 1065353216,.float .f32 1056964608,.float .f32 0,.float .f32 1056964608,.float .f32 1065353216] 64)) (w13.heap.size+1) #[.float .f32 0,.float .f32 1065353216,.float .f32 1056964608,.float .f32 0,.float .f32 1056964608,.float .f32 1065353216] 64:=CBlk.new _ _ _ _ (by simp)
 clear a_a7 t_a7 hBa7
 go_wp2_with fail
 generalize ((w13.alloc (.cells #[.string { data:=#[] },.string { data:=#[] }] 55)).alloc (.cells #[.float .f32 0,.float .f32 1065353216,.float .f32 1056964608,.float .f32 0,.float .f32 1056964608,.float .f32 1065353216] 64))=v13 at *
 have hT8g:=hT.later hBa8
 refine (zlh (w13.heap.size+1) _ v13 d_a8).mono ?_
 rintro e w14 ⟨g14,rfl,hr14,hbw14⟩
 have hBw14:=hBa8.trans (hbw14.mono hBa8.size)
 have t_w14:=t_a8.below hbw14 t_a8.lt
 have d_w14:=d_a8.below hbw14 d_a8.lt
 clear hbw14 t_a8 d_a8 hBa8
 have hTw14:=hT.later hBw14
 go_wp2_with fail
 refine (zmm g14 w14 hr14).mono ?_
 rintro e w15 ⟨A15,c15,rfl,hr15,hbw15⟩
 have hBw15:=hBw14.trans (hbw15.mono hBw14.size)
 have t_w15:=t_w14.below hbw15 t_w14.lt
 have dg_w15:=hr14.later hbw15
 clear hbw15 t_w14 hr14 hBw14
 have hTw15:=hT.later hBw15
 have hBa9:Below w.heap.size w (w15.alloc (.cells #[.bool true,.bool false,.bool true] 4)):=hBw15.alloc hBw15.size _
 have t_a9:=t_w15.alloc (.cells #[.bool true,.bool false,.bool true] 4)
 have n_a9:=hr15.later ((Below.refl _ _).alloc (Nat.le_refl _) (.cells #[.bool true,.bool false,.bool true] 4))
 have l1_a9:CBlk (w15.alloc (.cells #[.bool true,.bool false,.bool true] 4)) (w15.heap.size) #[.bool true,.bool false,.bool true] 4:=CBlk.new _ _ _ _ (by simp)
 clear t_w15 hr15 hBw15
 have hBa10:Below w.heap.size w ((w15.alloc (.cells #[.bool true,.bool false,.bool true] 4)).alloc (.cells #[.bool true,.bool true,.bool false] 4)):=hBa9.alloc hBa9.size _
 have t_a10:=t_a9.alloc (.cells #[.bool true,.bool true,.bool false] 4)
 have n_a10:=n_a9.later ((Below.refl _ _).alloc (Nat.le_refl _) (.cells #[.bool true,.bool true,.bool false] 4))
 have l1_a10:=l1_a9.alloc (.cells #[.bool true,.bool true,.bool false] 4)
 have l2_a10:CBlk ((w15.alloc (.cells #[.bool true,.bool false,.bool true] 4)).alloc (.cells #[.bool true,.bool true,.bool false] 4)) (w15.heap.size+1) #[.bool true,.bool true,.bool false] 4:=CBlk.new _ _ _ _ (by simp)
 clear t_a9 n_a9 l1_a9 hBa9
 have hBa11:Below w.heap.size w (((w15.alloc (.cells #[.bool true,.bool false,.bool true] 4)).alloc (.cells #[.bool true,.bool true,.bool false] 4)).alloc (.cells #[.slice (some ⟨w15.heap.size,0,none⟩) 3 3,.slice (some ⟨w15.heap.size+1,0,none⟩) 3 3] 95)):=hBa10.alloc hBa10.size _
 have t_a11:=t_a10.alloc (.cells #[.slice (some ⟨w15.heap.size,0,none⟩) 3 3,.slice (some ⟨w15.heap.size+1,0,none⟩) 3 3] 95)
 have n_a11:=n_a10.later ((Below.refl _ _).alloc (Nat.le_refl _) (.cells #[.slice (some ⟨w15.heap.size,0,none⟩) 3 3,.slice (some ⟨w15.heap.size+1,0,none⟩) 3 3] 95))
 have l1_a11:=l1_a10.alloc (.cells #[.slice (some ⟨w15.heap.size,0,none⟩) 3 3,.slice (some ⟨w15.heap.size+1,0,none⟩) 3 3] 95)
 have l2_a11:=l2_a10.alloc (.cells #[.slice (some ⟨w15.heap.size,0,none⟩) 3 3,.slice (some ⟨w15.heap.size+1,0,none⟩) 3 3] 95)
 have ls_a11:CBlk (((w15.alloc (.cells #[.bool true,.bool false,.bool true] 4)).alloc (.cells #[.bool true,.bool true,.bool false] 4)).alloc (.cells #[.slice (some ⟨w15.heap.size,0,none⟩) 3 3,.slice (some ⟨w15.heap.size+1,0,none⟩) 3 3] 95)) (w15.heap.size+1+1) #[.slice (some ⟨w15.heap.size,0,none⟩) 3 3,.slice (some ⟨w15.heap.size+1,0,none⟩) 3 3] 95:=CBlk.new _ _ _ _ (by simp)
 clear t_a10 n_a10 l1_a10 l2_a10 hBa10
 go_wp2_with fail
 generalize (((w15.alloc (.cells #[.bool true,.bool false,.bool true] 4)).alloc (.cells #[.bool true,.bool true,.bool false] 4)).alloc (.cells #[.slice (some ⟨w15.heap.size,0,none⟩) 3 3,.slice (some ⟨w15.heap.size+1,0,none⟩) 3 3] 95))=v15 at *
 have hT11g:=hT.later hBa11
 refine (zo4 (w15.heap.size+1+1) w15.heap.size (w15.heap.size+1) _ _ _ v15 l1_a11 l2_a11 ls_a11).mono ?_
 rintro e w16 ⟨g16,rfl,hr16,hbw16⟩
 have hBw16:=hBa11.trans (hbw16.mono hBa11.size)
 have t_w16:=t_a11.below hbw16 t_a11.lt
 have n_w16:=n_a11.later hbw16
 have l1_w16:=l1_a11.below hbw16 l1_a11.lt
 have l2_w16:=l2_a11.below hbw16 l2_a11.lt
 have ls_w16:=ls_a11.below hbw16 ls_a11.lt
 clear hbw16 t_a11 n_a11 l1_a11 l2_a11 ls_a11 hBa11
 have hTw16:=hT.later hBw16
 go_wp2_with fail
 refine (zmF g16 w16 hr16).mono ?_
 rintro e w17 ⟨g17,rfl,hk17,hbw17⟩
 have hBw17:=hBw16.trans (hbw17.mono hBw16.size)
 have t_w17:=t_w16.below hbw17 t_w16.lt
 have n_w17:=n_w16.later hbw17
 have w_w17:=hr16.later hbw17
 clear hbw17 t_w16 n_w16 hr16 hBw16
 have hTw17:=hT.later hBw17
 have hBa12:Below w.heap.size w (w17.alloc (.cells #[.float .f32 1065353216,.float .f32 1073741824,.float .f32 1077936128,.float .f32 1082130432] 64)):=hBw17.alloc hBw17.size _
 have t_a12:=t_w17.alloc (.cells #[.float .f32 1065353216,.float .f32 1073741824,.float .f32 1077936128,.float .f32 1082130432] 64)
 have n_a12:=n_w17.later ((Below.refl _ _).alloc (Nat.le_refl _) (.cells #[.float .f32 1065353216,.float .f32 1073741824,.float .f32 1077936128,.float .f32 1082130432] 64))
 have w_a12:=w_w17.later ((Below.refl _ _).alloc (Nat.le_refl _) (.cells #[.float .f32 1065353216,.float .f32 1073741824,.float .f32 1077936128,.float .f32 1082130432] 64))
 have b_a12:=hk17.alloc (.cells #[.float .f32 1065353216,.float .f32 1073741824,.float .f32 1077936128,.float .f32 1082130432] 64)
 have m1_a12:CBlk (w17.alloc (.cells #[.float .f32 1065353216,.float .f32 1073741824,.float .f32 1077936128,.float .f32 1082130432] 64)) (w17.heap.size) #[.float .f32 1065353216,.float .f32 1073741824,.float .f32 1077936128,.float .f32 1082130432] 64:=CBlk.new _ _ _ _ (by simp)
 clear t_w17 n_w17 w_w17 hk17 hBw17
 have hBa13:Below w.heap.size w ((w17.alloc (.cells #[.float .f32 1065353216,.float .f32 1073741824,.float .f32 1077936128,.float .f32 1082130432] 64)).alloc (.cells #[.float .f32 1073741824,.float .f32 1077936128,.float .f32 1082130432] 64)):=hBa12.alloc hBa12.size _
 have t_a13:=t_a12.alloc (.cells #[.float .f32 1073741824,.float .f32 1077936128,.float .f32 1082130432] 64)
 have n_a13:=n_a12.later ((Below.refl _ _).alloc (Nat.le_refl _) (.cells #[.float .f32 1073741824,.float .f32 1077936128,.float .f32 1082130432] 64))
 have w_a13:=w_a12.later ((Below.refl _ _).alloc (Nat.le_refl _) (.cells #[.float .f32 1073741824,.float .f32 1077936128,.float .f32 1082130432] 64))
 have b_a13:=b_a12.alloc (.cells #[.float .f32 1073741824,.float .f32 1077936128,.float .f32 1082130432] 64)
 have m1_a13:=m1_a12.alloc (.cells #[.float .f32 1073741824,.float .f32 1077936128,.float .f32 1082130432] 64)
 have m2_a13:CBlk ((w17.alloc (.cells #[.float .f32 1065353216,.float .f32 1073741824,.float .f32 1077936128,.float .f32 1082130432] 64)).alloc (.cells #[.float .f32 1073741824,.float .f32 1077936128,.float .f32 1082130432] 64)) (w17.heap.size+1) #[.float .f32 1073741824,.float .f32 1077936128,.float .f32 1082130432] 64:=CBlk.new _ _ _ _ (by simp)
 clear t_a12 n_a12 w_a12 b_a12 m1_a12 hBa12
 have hBa14:Below w.heap.size w (((w17.alloc (.cells #[.float .f32 1065353216,.float .f32 1073741824,.float .f32 1077936128,.float .f32 1082130432] 64)).alloc (.cells #[.float .f32 1073741824,.float .f32 1077936128,.float .f32 1082130432] 64)).alloc (.cells #[.slice (some ⟨w17.heap.size,0,none⟩) 4 4,.slice (some ⟨w17.heap.size+1,0,none⟩) 3 3] 26)):=hBa13.alloc hBa13.size _
 have t_a14:=t_a13.alloc (.cells #[.slice (some ⟨w17.heap.size,0,none⟩) 4 4,.slice (some ⟨w17.heap.size+1,0,none⟩) 3 3] 26)
 have n_a14:=n_a13.later ((Below.refl _ _).alloc (Nat.le_refl _) (.cells #[.slice (some ⟨w17.heap.size,0,none⟩) 4 4,.slice (some ⟨w17.heap.size+1,0,none⟩) 3 3] 26))
 have w_a14:=w_a13.later ((Below.refl _ _).alloc (Nat.le_refl _) (.cells #[.slice (some ⟨w17.heap.size,0,none⟩) 4 4,.slice (some ⟨w17.heap.size+1,0,none⟩) 3 3] 26))
 have b_a14:=b_a13.alloc (.cells #[.slice (some ⟨w17.heap.size,0,none⟩) 4 4,.slice (some ⟨w17.heap.size+1,0,none⟩) 3 3] 26)
 have m1_a14:=m1_a13.alloc (.cells #[.slice (some ⟨w17.heap.size,0,none⟩) 4 4,.slice (some ⟨w17.heap.size+1,0,none⟩) 3 3] 26)
 have m2_a14:=m2_a13.alloc (.cells #[.slice (some ⟨w17.heap.size,0,none⟩) 4 4,.slice (some ⟨w17.heap.size+1,0,none⟩) 3 3] 26)
 have ms_a14:CBlk (((w17.alloc (.cells #[.float .f32 1065353216,.float .f32 1073741824,.float .f32 1077936128,.float .f32 1082130432] 64)).alloc (.cells #[.float .f32 1073741824,.float .f32 1077936128,.float .f32 1082130432] 64)).alloc (.cells #[.slice (some ⟨w17.heap.size,0,none⟩) 4 4,.slice (some ⟨w17.heap.size+1,0,none⟩) 3 3] 26)) (w17.heap.size+1+1) #[.slice (some ⟨w17.heap.size,0,none⟩) 4 4,.slice (some ⟨w17.heap.size+1,0,none⟩) 3 3] 26:=CBlk.new _ _ _ _ (by simp)
 clear t_a13 n_a13 w_a13 b_a13 m1_a13 m2_a13 hBa13
 have hBa15:Below w.heap.size w ((((w17.alloc (.cells #[.float .f32 1065353216,.float .f32 1073741824,.float .f32 1077936128,.float .f32 1082130432] 64)).alloc (.cells #[.float .f32 1073741824,.float .f32 1077936128,.float .f32 1082130432] 64)).alloc (.cells #[.slice (some ⟨w17.heap.size,0,none⟩) 4 4,.slice (some ⟨w17.heap.size+1,0,none⟩) 3 3] 26)).alloc (.cells #[.int .i64 1,.int .i64 0] 3)):=hBa14.alloc hBa14.size _
 have t_a15:=t_a14.alloc (.cells #[.int .i64 1,.int .i64 0] 3)
 have n_a15:=n_a14.later ((Below.refl _ _).alloc (Nat.le_refl _) (.cells #[.int .i64 1,.int .i64 0] 3))
 have w_a15:=w_a14.later ((Below.refl _ _).alloc (Nat.le_refl _) (.cells #[.int .i64 1,.int .i64 0] 3))
 have b_a15:=b_a14.alloc (.cells #[.int .i64 1,.int .i64 0] 3)
 have m1_a15:=m1_a14.alloc (.cells #[.int .i64 1,.int .i64 0] 3)
 have m2_a15:=m2_a14.alloc (.cells #[.int .i64 1,.int .i64 0] 3)
 have ms_a15:=ms_a14.alloc (.cells #[.int .i64 1,.int .i64 0] 3)
 have mk_a15:CBlk ((((w17.alloc (.cells #[.float .f32 1065353216,.float .f32 1073741824,.float .f32 1077936128,.float .f32 1082130432] 64)).alloc (.cells #[.float .f32 1073741824,.float .f32 1077936128,.float .f32 1082130432] 64)).alloc (.cells #[.slice (some ⟨w17.heap.size,0,none⟩) 4 4,.slice (some ⟨w17.heap.size+1,0,none⟩) 3 3] 26)).alloc (.cells #[.int .i64 1,.int .i64 0] 3)) (w17.heap.size+1+1+1) #[.int .i64 1,.int .i64 0] 3:=CBlk.new _ _ _ _ (by simp)
 clear t_a14 n_a14 w_a14 b_a14 m1_a14 m2_a14 ms_a14 hBa14
 go_wp2_with fail
 generalize ((((w17.alloc (.cells #[.float .f32 1065353216,.float .f32 1073741824,.float .f32 1077936128,.float .f32 1082130432] 64)).alloc (.cells #[.float .f32 1073741824,.float .f32 1077936128,.float .f32 1082130432] 64)).alloc (.cells #[.slice (some ⟨w17.heap.size,0,none⟩) 4 4,.slice (some ⟨w17.heap.size+1,0,none⟩) 3 3] 26)).alloc (.cells #[.int .i64 1,.int .i64 0] 3))=v17 at *
 have hT15g:=hT.later hBa15
 refine (zln (w17.heap.size+1+1) w17.heap.size (w17.heap.size+1) (w17.heap.size+1+1+1) _ _ _ _ v17 m1_a15 m2_a15 ms_a15 mk_a15).mono ?_
 rintro e w18 ⟨G18,a18,b18,rfl,hG18,ha18,hb18r,hbw18⟩
 have hBw18:=hBa15.trans (hbw18.mono hBa15.size)
 have t_w18:=t_a15.below hbw18 t_a15.lt
 have n_w18:=n_a15.later hbw18
 have w_w18:=w_a15.later hbw18
 have b_w18:=b_a15.below hbw18 b_a15.lt
 have m1_w18:=m1_a15.below hbw18 m1_a15.lt
 have m2_w18:=m2_a15.below hbw18 m2_a15.lt
 have ms_w18:=ms_a15.below hbw18 ms_a15.lt
 have mk_w18:=mk_a15.below hbw18 mk_a15.lt
 clear hbw18 t_a15 n_a15 w_a15 b_a15 m1_a15 m2_a15 ms_a15 mk_a15 hBa15
 have hTw18:=hT.later hBw18
 go_wp2_with fail
 refine (zqr (some ⟨g16,0,none⟩) 3 w18).mono ?_
 rintro e w19 ⟨rfl,hbw19⟩
 have hBw19:=hBw18.trans (hbw19.mono hBw18.size)
 have t_w19:=t_w18.below hbw19 t_w18.lt
 have n_w19:=n_w18.later hbw19
 have w_w19:=w_w18.later hbw19
 have b_w19:=b_w18.below hbw19 b_w18.lt
 have G_w19:=hG18.below hbw19 hG18.lt
 have ra_w19:=ha18.later hbw19
 have rb_w19:=hb18r.later hbw19
 clear hbw19 t_w18 n_w18 w_w18 b_w18 hG18 ha18 hb18r hBw18
 have hTw19:=hT.later hBw19
 have hBa16:Below w.heap.size w (w19.alloc (.cells #[.int .u16 0,.int .u16 0,.int .u16 0,.int .u16 0,.int .u16 0,.int .u16 0,.int .u16 0,.int .u16 0,.int .u16 0,.int .u16 0,.int .u16 0,.int .u16 0,.int .u16 0,.int .u16 0,.int .u16 0,.int .u16 0] 112)):=hBw19.alloc hBw19.size _
 have t_a16:=t_w19.alloc (.cells #[.int .u16 0,.int .u16 0,.int .u16 0,.int .u16 0,.int .u16 0,.int .u16 0,.int .u16 0,.int .u16 0,.int .u16 0,.int .u16 0,.int .u16 0,.int .u16 0,.int .u16 0,.int .u16 0,.int .u16 0,.int .u16 0] 112)
 have n_a16:=n_w19.later ((Below.refl _ _).alloc (Nat.le_refl _) (.cells #[.int .u16 0,.int .u16 0,.int .u16 0,.int .u16 0,.int .u16 0,.int .u16 0,.int .u16 0,.int .u16 0,.int .u16 0,.int .u16 0,.int .u16 0,.int .u16 0,.int .u16 0,.int .u16 0,.int .u16 0,.int .u16 0] 112))
 have w_a16:=w_w19.later ((Below.refl _ _).alloc (Nat.le_refl _) (.cells #[.int .u16 0,.int .u16 0,.int .u16 0,.int .u16 0,.int .u16 0,.int .u16 0,.int .u16 0,.int .u16 0,.int .u16 0,.int .u16 0,.int .u16 0,.int .u16 0,.int .u16 0,.int .u16 0,.int .u16 0,.int .u16 0] 112))
 have b_a16:=b_w19.alloc (.cells #[.int .u16 0,.int .u16 0,.int .u16 0,.int .u16 0,.int .u16 0,.int .u16 0,.int .u16 0,.int .u16 0,.int .u16 0,.int .u16 0,.int .u16 0,.int .u16 0,.int .u16 0,.int .u16 0,.int .u16 0,.int .u16 0] 112)
 have G_a16:=G_w19.alloc (.cells #[.int .u16 0,.int .u16 0,.int .u16 0,.int .u16 0,.int .u16 0,.int .u16 0,.int .u16 0,.int .u16 0,.int .u16 0,.int .u16 0,.int .u16 0,.int .u16 0,.int .u16 0,.int .u16 0,.int .u16 0,.int .u16 0] 112)
 have ra_a16:=ra_w19.later ((Below.refl _ _).alloc (Nat.le_refl _) (.cells #[.int .u16 0,.int .u16 0,.int .u16 0,.int .u16 0,.int .u16 0,.int .u16 0,.int .u16 0,.int .u16 0,.int .u16 0,.int .u16 0,.int .u16 0,.int .u16 0,.int .u16 0,.int .u16 0,.int .u16 0,.int .u16 0] 112))
 have rb_a16:=rb_w19.later ((Below.refl _ _).alloc (Nat.le_refl _) (.cells #[.int .u16 0,.int .u16 0,.int .u16 0,.int .u16 0,.int .u16 0,.int .u16 0,.int .u16 0,.int .u16 0,.int .u16 0,.int .u16 0,.int .u16 0,.int .u16 0,.int .u16 0,.int .u16 0,.int .u16 0,.int .u16 0] 112))
 clear t_w19 n_w19 w_w19 b_w19 G_w19 ra_w19 rb_w19 hBw19
 go_wp2_with fail
 generalize (w19.alloc (.cells #[.int .u16 0,.int .u16 0,.int .u16 0,.int .u16 0,.int .u16 0,.int .u16 0,.int .u16 0,.int .u16 0,.int .u16 0,.int .u16 0,.int .u16 0,.int .u16 0,.int .u16 0,.int .u16 0,.int .u16 0,.int .u16 0] 112))=v19 at *
 have hT16g:=hT.later hBa16
 have t19:=t_a16
 have G19:=G_a16
 have b19:=b_a16
 have n19:=n_a16
 have u19:=w_a16
 have ra19:=ra_a16
 have rb19:=rb_a16
 have hB19:=hBa16
 clear t_a16 G_a16 b_a16 n_a16 w_a16 ra_a16 rb_a16 hBa16
 have hda:Below v19.heap.size v19 ((v19.alloc (.cells #[.int .i64 1,.int .i64 3,.int .i64 5] 3)).drew):=((Below.refl _ _).alloc (Nat.le_refl _) _).drew
 have nA:=n19.later hda
 have lA:zae ((v19.alloc (.cells #[.int .i64 1,.int .i64 3,.int .i64 5] 3)).drew) ((v19.alloc (.cells #[.int .i64 1,.int .i64 3,.int .i64 5] 3)).drew).heap.size 1 (some ⟨v19.heap.size,0,none⟩) 3 (([1,3,5]:List Int).map i64v):=zae.blk (xs:=[.int .i64 1,.int .i64 3,.int .i64 5]) (CBlk.drew (CBlk.new _ _ _ _ rfl)) (by show 3≤maxLen;unfold maxLen;omega)
 have HI:=Lib.hid (zfF A15 (some ⟨v19.heap.size,0,none⟩) 3 c15 3 [1,3,5] _ nA lA (by unfold maxLen;omega))
 clear nA lA n19
 have und64:Tryz.prog.underlying 112=some (.array 16 111):=by kernel_rfl
 have inf64:(Tryz.prog.info? 112).map (fun i=>i.size)=some (16:Nat):=by kernel_rfl
 have qvt:∀ W:World,(Op.equalIn 10000 55 (.agg #[.string { data:=#[57,47,56] },.string { data:=#[49,49,47,56] }]) (.agg #[.string { data:=#[57,47,56] },.string { data:=#[49,49,47,56] }])).run Tryz.prog W = .ok true W:=fun W=>by kernel_rfl
 have qva:∀ W:World,(Op.equalIn 10000 112 (.agg #[.int .u16 3,.int .u16 2,.int .u16 1,.int .u16 0,.int .u16 0,.int .u16 0,.int .u16 0,.int .u16 0,.int .u16 0,.int .u16 0,.int .u16 0,.int .u16 0,.int .u16 0,.int .u16 0,.int .u16 0,.int .u16 0]) (.agg #[.int .u16 3,.int .u16 2,.int .u16 1,.int .u16 0,.int .u16 0,.int .u16 0,.int .u16 0,.int .u16 0,.int .u16 0,.int .u16 0,.int .u16 0,.int .u16 0,.int .u16 0,.int .u16 0,.int .u16 0,.int .u16 0])).run Tryz.prog W = .ok true W:=fun W=>by kernel_rfl
 simp only [List.append_eq,List.cons_append,List.nil_append]
 go_region_held3 (fun w'=>w'.cell? ⟨w12.heap.size,0,none⟩=some (.string { data:=#[57,47,56] })∧w'.cell? ⟨w12.heap.size,1,none⟩=some (.string { data:=#[49,49,47,56] })∧w'.cell? ⟨G18,0,none⟩=some (.slice (some ⟨a18,0,none⟩) 3 3)∧w'.cell? ⟨G18,1,none⟩=some (.slice (some ⟨b18,0,none⟩) 3 3)∧w'.rangeAt g17 0 [.int .u16 3,.int .u16 2,.int .u16 1,.int .u16 0,.int .u16 0,.int .u16 0,.int .u16 0,.int .u16 0,.int .u16 0,.int .u16 0,.int .u16 0,.int .u16 0,.int .u16 0,.int .u16 0,.int .u16 0,.int .u16 0])
  ((refine ⟨?_,?_,?_,?_,?_⟩<;>first | ((with_reducible refine (t23.cell _).trans ?_);rfl) | ((with_reducible refine (G23.cell _).trans ?_);rfl) | ((with_reducible refine ((t22.alloc _).cell _).trans ?_);rfl) | ((with_reducible refine ((G22.alloc _).cell _).trans ?_);rfl) | ((with_reducible refine (t22.cell _).trans ?_);rfl) | ((with_reducible refine (G22.cell _).trans ?_);rfl) | ((with_reducible refine (t21.cell _).trans ?_);rfl) | ((with_reducible refine (G21.cell _).trans ?_);rfl) | ((with_reducible refine ((t20.alloc _).cell _).trans ?_);rfl) | ((with_reducible refine ((G20.alloc _).cell _).trans ?_);rfl) | ((with_reducible refine (t20.cell _).trans ?_);rfl) | ((with_reducible refine (G20.cell _).trans ?_);rfl) | ((with_reducible refine ((t19.alloc _).drew.cell _).trans ?_);rfl) | ((with_reducible refine ((G19.alloc _).drew.cell _).trans ?_);rfl) | ((with_reducible refine (t19.drew.cell _).trans ?_);rfl) | ((with_reducible refine (G19.drew.cell _).trans ?_);rfl) | (with_reducible exact b23.range) | (with_reducible exact (b22.alloc _).range) | (with_reducible exact b22.range) | (with_reducible exact b21.range) | (with_reducible exact (b20.alloc _).range) | (with_reducible exact b20.range) | (with_reducible exact (b19.alloc _).drew.range) | (with_reducible exact b19.drew.range)))
  (first
   |(go_at_call 22;have hr22:=ra22.later ((Below.refl _ _).alloc (Nat.le_refl _) (.cells #[.float .f32 1073741824,.float .f32 1077936128,.float .f32 1082130432] 64));have l22:zae (w22.alloc (.cells #[.float .f32 1073741824,.float .f32 1077936128,.float .f32 1082130432] 64)) (w22.alloc (.cells #[.float .f32 1073741824,.float .f32 1077936128,.float .f32 1082130432] 64)).heap.size 1 (some ⟨w22.heap.size,0,none⟩) 3 ([1073741824,1077936128,1082130432].map f32v):=zae.lit w22 [.float .f32 1073741824,.float .f32 1077936128,.float .f32 1082130432] _;refine (zd8 (some ⟨a18,0,none⟩) (some ⟨w22.heap.size,0,none⟩) 3 3 3 [1073741824,1077936128,1082130432] _ hr22 l22 (by unfold maxLen;omega) (by decide +kernel)).mono ?_;rintro e w23 ⟨rfl,hb23'⟩;have hb23:Below w22.heap.size w22 w23:=Below.trans ((Below.refl _ _).alloc (Nat.le_refl _) _) (hb23'.mono (by simp));have t23:=t22.below hb23 t22.lt;have G23:=G22.below hb23 G22.lt;have b23:=b22.below hb23 b22.lt)
   |(go_at_call 22;refine (zd8 (some ⟨a18,0,none⟩) (some ⟨b18,0,none⟩) 3 3 3 [1073741824,1077936128,1082130432] w21 ra21 rb21 (by unfold maxLen;omega) (by decide +kernel)).mono ?_;rintro e w22 ⟨rfl,hb22⟩;have t22:=t21.below hb22 t21.lt;have G22:=G21.below hb22 G21.lt;have b22:=b21.below hb22 b21.lt;have ra22:=ra21.later hb22)
   |(go_at_call 63;have hu20:=u20.later ((Below.refl _ _).alloc (Nat.le_refl _) (.cells #[.int .u16 3,.int .u16 2,.int .u16 1] 111));have l20:zae (w20.alloc (.cells #[.int .u16 3,.int .u16 2,.int .u16 1] 111)) (w20.alloc (.cells #[.int .u16 3,.int .u16 2,.int .u16 1] 111)).heap.size 1 (some ⟨w20.heap.size,0,none⟩) 3 ([3,2,1].map u16v):=zae.lit w20 [.int .u16 3,.int .u16 2,.int .u16 1] _;refine (ziz (some ⟨g16,0,none⟩) (some ⟨w20.heap.size,0,none⟩) 3 3 3 [3,2,1] _ hu20 l20 (by unfold maxLen;omega)).mono ?_;rintro e w21 ⟨rfl,hb21'⟩;have hb21:Below w20.heap.size w20 w21:=Below.trans ((Below.refl _ _).alloc (Nat.le_refl _) _) (hb21'.mono (by simp));have t21:=t20.below hb21 t20.lt;have G21:=G20.below hb21 G20.lt;have b21:=b20.below hb21 b20.lt;have ra21:=ra20.later hb21;have rb21:=rb20.later hb21)
   |(go_at_call 23;refine (HI.out).mono ?_;rintro e w20 ⟨rfl,hb20'⟩;have hb20:Below v19.heap.size v19 w20:=hda.trans (hb20'.mono hda.size);have t20:=t19.below hb20 t19.lt;have G20:=G19.below hb20 G19.lt;have b20:=b19.below hb20 b19.lt;have ra20:=ra19.later hb20;have rb20:=rb19.later hb20;have u20:=u19.later hb20))
 go_wp2_with fail
 go_ret
 have c20:=hB19.trans (hb20.mono hB19.size)
 have c21:=c20.trans (hb21.mono c20.size)
 have c22:=c21.trans (hb22.mono c21.size)
 exact ⟨rfl,c22.trans (hb23.mono c22.size)⟩
end Go.Proofs.YtmkihdjolnlccaaGreatDoor
